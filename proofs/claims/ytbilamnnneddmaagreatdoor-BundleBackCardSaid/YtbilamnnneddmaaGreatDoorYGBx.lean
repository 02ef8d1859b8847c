import Derived.Test.YtbilamnnneddmaaGreatDoorYGA
import Derived.Test.YtbilamnnneddmaaGreatDoorYHUx
import Derived.Lib.Hide
import Derived.LoopN
import Derived.LoopTactic
import Derived.Deep.Onto
import Derived.Deep.RegionHeld3
import Derived.Deep.QuietTactic
import Derived.BigQuiet
import Derived.Test.YtbilamnnneddmaaGreatDoorYGU
import Derived.Test.YtbilamnnneddmaaGreatDoorYCHx
namespace Go.Proofs.YtbilamnnneddmaaGreatDoor
set_option linter.unusedVariables false
set_option maxRecDepth 2000
set_option linter.unusedSimpArgs false
open Go.RowKit
theorem index8 (g:Nat→Int) (k:Nat) (hk:k<8) (w:World):(Instr.index 23 (.agg #[.int .u8 (g 0),.int .u8 (g 1),.int .u8 (g 2),.int .u8 (g 3),.int .u8 (g 4),.int .u8 (g 5),.int .u8 (g 6),.int .u8 (g 7)]) (.int .i64 k)).run Tryz.prog w = .ok (.int .u8 (g k)) w:=match k,hk with
 | 0,_=>by kernel_rfl
 | 1,_=>by kernel_rfl
 | 2,_=>by kernel_rfl
 | 3,_=>by kernel_rfl
 | 4,_=>by kernel_rfl
 | 5,_=>by kernel_rfl
 | 6,_=>by kernel_rfl
 | 7,_=>by kernel_rfl
def maskB (g:Nat→Int):Bool:=allB (fun j=>decide (g j≤15)) 8
theorem maskB_no {g:Nat→Int} {k:Nat} (hk:k<8) (h:15<g k):maskB g=false:=allB_not hk (decide_eq_false (by omega))
theorem maskB_yes {g:Nat→Int}:maskB g=true↔∀ j,j<8→g j≤15:=by
 unfold maskB
 rw[allB_iff]
 exact⟨fun h j hj=>of_decide_eq_true (h j hj),fun h j hj=>decide_eq_true (h j hj)⟩
set_option maxHeartbeats 4000000 in
theorem Masks_any (g:Nat→Int) (w:World):Calls Tryz.prog 95 #[.agg #[.int .u8 (g 0),.int .u8 (g 1),.int .u8 (g 2),.int .u8 (g 3),.int .u8 (g 4),.int .u8 (g 5),.int .u8 (g 6),.int .u8 (g 7)]] w fun e w'=>e = .returned (.bool (maskB g))∧Below w.heap.size w w':=by
 have ix:=Lib.hid (index8 g)
 have hA:Hid (Below w.heap.size w (w.alloc (.cells #[.int .u8 (g 0),.int .u8 (g 1),.int .u8 (g 2),.int .u8 (g 3),.int .u8 (g 4),.int .u8 (g 5),.int .u8 (g 6),.int .u8 (g 7)] 23))):=Lib.hid (Below.al (Below.refl _ _))
 go_enter Tryz.func95,Tryz.ntmps95
 go_wp2_with (fail)
 obtain⟨w1,e1⟩:∃ x,x=(w.alloc (.cells #[.int .u8 (g 0),.int .u8 (g 1),.int .u8 (g 2),.int .u8 (g 3),.int .u8 (g 4),.int .u8 (g 5),.int .u8 (g 6),.int .u8 (g 7)] 23)):=⟨_,rfl⟩
 rw[← e1] at hA ⊢
 clear e1
 go_loopw [4,6] (fun _ iv wr=>∃ (k:Nat),k≤8∧iv = .int .i64 k∧Hid (∀ j,j<k→g j≤15)∧w1=wr) (fun _ iv _=>(8 - (intOf iv).toNat))
 case atStart=>exact⟨0,Nat.zero_le _,rfl,Lib.hid (fun j hj=>absurd hj (Nat.not_lt_zero j)),rfl⟩
 case round =>
  obtain⟨k,hk,rfl,HA,rfl⟩:=hrel
  by_cases hlt:k<8
  ·have hx:=ix.out k hlt
   by_cases hb:15<g k
   ·have HV:=Lib.hid (maskB_no hlt hb)
    have e1:decide (15<g k)=true:=decide_eq_true hb
    generalize g k=x at hx e1
    clear hb ix HA
    go_wp2_with (fail)
    go_ret
    exact⟨by rw[HV.out];rfl,hA.out⟩
   ·have e1:decide (15<g k)=false:=decide_eq_false hb
    have HX:Hid (∀ j,j<k+1→g j≤15):=Lib.hid fun j hj=>by
     by_cases e:j<k
     ·exact HA.out j e
     ·obtain rfl:j=k:=by omega
      omega
    have HLT:=Lib.hid (show k+1≤8 by omega)
    have wk:IntKind.i64.wrap ((k:Int)+1)=(k:Int)+1:=IntWalk.i64_in _ (by omega)
    generalize g k=x at hx e1
    clear hb ix HA
    go_wp2_with (fail)
    go_roundw
    case rel=>exact⟨k+1,HLT.out,by go_num,HX,(by first | rfl | trivial)⟩
    case measure=>(have:=HLT.out;simp[intOf];omega)
  ·obtain rfl:k=8:=by omega
   have HV:Hid (maskB g=true):=Lib.hid (maskB_yes.2 HA.out)
   clear hlt hk HA ix
   go_wp2_with (fail)
   go_ret
   exact⟨by rw[HV.out];rfl,hA.out⟩
end Go.Proofs.YtbilamnnneddmaaGreatDoor
namespace Go.Proofs.YtbilamnnneddmaaGreatDoor
set_option linter.unusedVariables false
set_option maxRecDepth 2000
set_option linter.unusedSimpArgs false
open Go.RowKit
def checkF (k:Int) (g:Nat→Int) (f t s c:Int):Int:=if capF k=0 then 12 else if maskB g=false∨t<f∨s<1 then 5 else if capF k<s then 9 else if c≠chunkF s then 5 else 0
theorem check_ok {k:Int} {g:Nat→Int} {f t s c:Int} (h:checkF k g f t s c=0):(1≤k∧k≤4)∧(∀ j,j<8→g j≤15)∧f≤t∧1≤s∧s≤2048∧c=chunkF s∧1≤c∧c≤8:=by
 unfold checkF at h
 split at h
 ·omega
 ·rename_i h1
  split at h
  ·omega
  ·rename_i h2
   split at h
   ·omega
   ·rename_i h3
    split at h
    ·omega
    ·rename_i h4
     have hc:=capF_le k
     have hm:maskB g=true:=by
      cases e:maskB g with
      | true=>rfl
      | false=>exact absurd (.inl e) h2
     have h5:c=chunkF s:=Classical.byContradiction h4
     have h6:¬(t<f∨s<1):=fun a=>h2 (.inr a)
     have h7:¬s<1:=by omega
     have h8:=chunkF_yes h7
     exact⟨cap_kind h1,maskB_yes.1 hm,by omega,by omega,by omega,h5,by omega,by omega⟩
theorem chk_a {k:Int} {g:Nat→Int} {f t s c:Int} (h:capF k=0):checkF k g f t s c=12:=if_pos h
theorem chk_b {k:Int} {g:Nat→Int} {f t s c:Int} (h:¬capF k=0) (h2:maskB g=false∨t<f∨s<1):checkF k g f t s c=5:=by unfold checkF;rw[if_neg h,if_pos h2]
theorem chk_e {k:Int} {g:Nat→Int} {f t s c:Int} (h:¬capF k=0) (h2:¬(maskB g=false∨t<f∨s<1)) (h3:capF k<s):checkF k g f t s c=9:=by unfold checkF;rw[if_neg h,if_neg h2,if_pos h3]
theorem chk_f {k:Int} {g:Nat→Int} {f t s c:Int} (h:¬capF k=0) (h2:¬(maskB g=false∨t<f∨s<1)) (h3:¬capF k<s) (h4:¬c=chunkF s):checkF k g f t s c=5:=by unfold checkF;rw[if_neg h,if_neg h2,if_neg h3,if_pos h4]
theorem chk_g {k:Int} {g:Nat→Int} {f t s c:Int} (h:¬capF k=0) (h2:¬(maskB g=false∨t<f∨s<1)) (h3:¬capF k<s) (h4:c=chunkF s):checkF k g f t s c=0:=by unfold checkF;rw[if_neg h,if_neg h2,if_neg h3,if_neg (fun a=>a h4)]
set_option maxHeartbeats 8000000 in
theorem gCheck_any (mi mk ml:Int) (mg:Nat→Int) (mf mt ms mc:Int) (hs : -9223372036854775808≤ms∧ms≤9223372036854775807) (w:World) (hg:Has 0 0 CapL w):Calls Tryz.prog 58 #[(.agg #[.int .u64 mi,.int .i64 mk,.int .u32 ml,.int .u8 (mg 0),.int .u8 (mg 1),.int .u8 (mg 2),.int .u8 (mg 3),.int .u8 (mg 4),.int .u8 (mg 5),.int .u8 (mg 6),.int .u8 (mg 7),.int .u32 mf,.int .u32 mt,.int .i64 ms,.int .i64 mc])] w fun e w'=>e = .returned (.int .i64 (checkF mk mg mf mt ms mc))∧Below w.heap.size w w':=by
 have HG:=Lib.hid hg
 have FK:=Lib.hid (Cap_any mk)
 have FM:=Lib.hid (Masks_any mg)
 have FC:=Lib.hid (Chunks_any ms hs)
 have VA:=Lib.hid (@chk_a mk mg mf mt ms mc);have VB:=Lib.hid (@chk_b mk mg mf mt ms mc);have VE:=Lib.hid (@chk_e mk mg mf mt ms mc);have VF:=Lib.hid (@chk_f mk mg mf mt ms mc);have VG:=Lib.hid (@chk_g mk mg mf mt ms mc)
 clear hs hg
 generalize checkF mk mg mf mt ms mc=z at *
 generalize capF mk=q at *
 generalize maskB mg=mb at *
 generalize chunkF ms=ch at *
 go_enter Tryz.func58,Tryz.ntmps58
 go_upto_region 1 with fail
 obtain⟨W0,hW⟩:∃ W0,W0=(w.alloc (.cells #[.int .u64 mi,.int .i64 mk,.int .u32 ml,.int .u8 (mg 0),.int .u8 (mg 1),.int .u8 (mg 2),.int .u8 (mg 3),.int .u8 (mg 4),.int .u8 (mg 5),.int .u8 (mg 6),.int .u8 (mg 7),.int .u32 mf,.int .u32 mt,.int .i64 ms,.int .i64 mc] 27)):=⟨_,rfl⟩
 have hB0:Below w.heap.size w W0:=hW ▸ (Below.al (Below.refl _ _))
 have HA:Hid (Own w.heap.size [.int .u64 mi,.int .i64 mk,.int .u32 ml,.int .u8 (mg 0),.int .u8 (mg 1),.int .u8 (mg 2),.int .u8 (mg 3),.int .u8 (mg 4),.int .u8 (mg 5),.int .u8 (mg 6),.int .u8 (mg 7),.int .u32 mf,.int .u32 mt,.int .i64 ms,.int .i64 mc] W0):=Lib.hid (hW ▸ (Own.newAt (by simp)))
 rw[← hW]
 clear hW
 obtain⟨A,eA⟩:∃ X,X=w.heap.size:=⟨_,rfl⟩
 rw[← eA] at HA ⊢
 have Aw:w.heap.size≤A:=by omega
 clear eA
 have HB0:=Lib.hid hB0
 clear hB0
 have HG0:=Lib.hid (HG.out.later HB0.out)
 clear HG
 have oA:=HA.out
 have A1:=oA.at 1 _ rfl
 have A3:=oA.at 3 _ rfl
 have A4:=oA.at 4 _ rfl
 have A5:=oA.at 5 _ rfl
 have A6:=oA.at 6 _ rfl
 have A7:=oA.at 7 _ rfl
 have A8:=oA.at 8 _ rfl
 have A9:=oA.at 9 _ rfl
 have A10:=oA.at 10 _ rfl
 have A11:=oA.at 11 _ rfl
 have A12:=oA.at 12 _ rfl
 have A13:=oA.at 13 _ rfl
 have A14:=oA.at 14 _ rfl
 have Al:=oA.lt
 clear oA
 go_wp2_with (fail)
 go_at_call 50
 refine (FK.out _ HG0.out).mono ?_
 rintro e y1 ⟨rfl,hw⟩
 obtain rfl:W0=y1:=hw.symm
 clear FK HG0
 by_cases ha:q=0
 ·have HV:=Lib.hid (VA.out ha)
  subst ha
  clear VA VB VE VF VG FM FC
  go_wp2_with (fail)
  go_ret
  exact⟨by rw[HV.out];rfl,HB0.out⟩
 have hqb:(q == 0)=false:=by simpa using ha
 have hqd:decide (q=0)=false:=decide_eq_false ha
 cases mb with
 | false =>
  have HV:=Lib.hid (VB.out ha (.inl rfl))
  clear VA VB VE VF VG FC
  go_wp2_with (fail)
  go_at_call 95
  refine (FM.out _).mono ?_
  rintro e y2 ⟨rfl,hb⟩
  have HB2:=Lib.hid (Below.go HB0.out hb)
  have HA2:=Lib.hid (HA.out.later hb)
  clear A1 A3 A4 A5 A6 A7 A8 A9 A10 A11 A12 A13 A14 Al hb
  have oA:=HA2.out
  have A11:=oA.at 11 _ rfl
  have A12:=oA.at 12 _ rfl
  have A13:=oA.at 13 _ rfl
  have A14:=oA.at 14 _ rfl
  have Al:=oA.lt
  clear oA
  go_wp2_with (fail)
  go_ret
  exact⟨by rw[HV.out];rfl,HB2.out⟩
 | true =>
  by_cases hc:mt<mf
  ·have HV:=Lib.hid (VB.out ha (.inr (.inl hc)))
   have d1:decide (mt<mf)=true:=decide_eq_true hc
   clear VA VB VE VF VG FC
   go_wp2_with (fail)
   go_at_call 95
   refine (FM.out _).mono ?_
   rintro e y2 ⟨rfl,hb⟩
   have HB2:=Lib.hid (Below.go HB0.out hb)
   have HA2:=Lib.hid (HA.out.later hb)
   clear A1 A3 A4 A5 A6 A7 A8 A9 A10 A11 A12 A13 A14 Al hb
   have oA:=HA2.out
   have A11:=oA.at 11 _ rfl
   have A12:=oA.at 12 _ rfl
   have A13:=oA.at 13 _ rfl
   have A14:=oA.at 14 _ rfl
   have Al:=oA.lt
   clear oA
   go_wp2_with (fail)
   go_ret
   exact⟨by rw[HV.out];rfl,HB2.out⟩
  have d1:decide (mt<mf)=false:=decide_eq_false hc
  by_cases hd:ms<1
  ·have HV:=Lib.hid (VB.out ha (.inr (.inr hd)))
   have d2:decide (ms<1)=true:=decide_eq_true hd
   clear VA VB VE VF VG FC
   go_wp2_with (fail)
   go_at_call 95
   refine (FM.out _).mono ?_
   rintro e y2 ⟨rfl,hb⟩
   have HB2:=Lib.hid (Below.go HB0.out hb)
   have HA2:=Lib.hid (HA.out.later hb)
   clear A1 A3 A4 A5 A6 A7 A8 A9 A10 A11 A12 A13 A14 Al hb
   have oA:=HA2.out
   have A11:=oA.at 11 _ rfl
   have A12:=oA.at 12 _ rfl
   have A13:=oA.at 13 _ rfl
   have A14:=oA.at 14 _ rfl
   have Al:=oA.lt
   clear oA
   go_wp2_with (fail)
   go_ret
   exact⟨by rw[HV.out];rfl,HB2.out⟩
  have d2:decide (ms<1)=false:=decide_eq_false hd
  have hn:¬(true=false∨mt<mf∨ms<1):=by simp;omega
  by_cases hh:q<ms
  ·have HV:=Lib.hid (VE.out ha hn hh)
   have d3:decide (q<ms)=true:=decide_eq_true hh
   clear VA VB VE VF VG FC hn
   go_wp2_with (fail)
   go_at_call 95
   refine (FM.out _).mono ?_
   rintro e y2 ⟨rfl,hb⟩
   have HB2:=Lib.hid (Below.go HB0.out hb)
   have HA2:=Lib.hid (HA.out.later hb)
   clear A1 A3 A4 A5 A6 A7 A8 A9 A10 A11 A12 A13 A14 Al hb
   have oA:=HA2.out
   have A11:=oA.at 11 _ rfl
   have A12:=oA.at 12 _ rfl
   have A13:=oA.at 13 _ rfl
   have A14:=oA.at 14 _ rfl
   have Al:=oA.lt
   clear oA
   go_wp2_with (fail)
   go_ret
   exact⟨by rw[HV.out];rfl,HB2.out⟩
  have d3:decide (q<ms)=false:=decide_eq_false hh
  by_cases hi:mc=ch
  ·have HV:=Lib.hid (VG.out ha hn (by omega) hi)
   have d4:(mc != ch)=false:=by simpa using hi
   clear VA VB VE VF VG hn
   go_wp2_with (fail)
   go_at_call 95
   refine (FM.out _).mono ?_
   rintro e y2 ⟨rfl,hb⟩
   have HB2:=Lib.hid (Below.go HB0.out hb)
   have HA2:=Lib.hid (HA.out.later hb)
   clear A1 A3 A4 A5 A6 A7 A8 A9 A10 A11 A12 A13 A14 Al hb
   have oA:=HA2.out
   have A11:=oA.at 11 _ rfl
   have A12:=oA.at 12 _ rfl
   have A13:=oA.at 13 _ rfl
   have A14:=oA.at 14 _ rfl
   have Al:=oA.lt
   clear oA
   go_wp2_with (fail)
   go_quiet (first | (go_at_call 22;exact Calls.quiet_of_same (FC.out _)))
   go_wp2_with (fail)
   go_ret
   exact⟨by rw[HV.out];rfl,below_drewN HB2.out _⟩
  ·have HV:=Lib.hid (VF.out ha hn (by omega) hi)
   have d4:(mc != ch)=true:=by simpa using hi
   clear VA VB VE VF VG hn
   go_wp2_with (fail)
   go_at_call 95
   refine (FM.out _).mono ?_
   rintro e y2 ⟨rfl,hb⟩
   have HB2:=Lib.hid (Below.go HB0.out hb)
   have HA2:=Lib.hid (HA.out.later hb)
   clear A1 A3 A4 A5 A6 A7 A8 A9 A10 A11 A12 A13 A14 Al hb
   have oA:=HA2.out
   have A11:=oA.at 11 _ rfl
   have A12:=oA.at 12 _ rfl
   have A13:=oA.at 13 _ rfl
   have A14:=oA.at 14 _ rfl
   have Al:=oA.lt
   clear oA
   go_wp2_with (fail)
   go_quiet (first | (go_at_call 22;exact Calls.quiet_of_same (FC.out _)))
   go_wp2_with (fail)
   go_ret
   exact⟨by rw[HV.out];rfl,below_drewN HB2.out _⟩
end Go.Proofs.YtbilamnnneddmaaGreatDoor
namespace Go.Proofs.YtbilamnnneddmaaGreatDoor
set_option linter.unusedVariables false
set_option maxRecDepth 2000
set_option linter.unusedSimpArgs false
open Go.RowKit
def gencF (mi mk ml:Int) (mg:Nat→Int) (mf mt ms mc:Int) (j:Nat):Int:=if j<8 then dg mi j else if j<9 then dg mk (j - 8) else if j<13 then dg ml (j - 9) else if j<21 then dg (mg (j - 13)) 0 else if j<25 then dg mf (j - 21) else if j<29 then dg mt (j - 25) else if j<33 then dg ms (j - 29) else dg mc (j - 33)
theorem gin_encF (mi mk ml:Int) (mg:Nat→Int) (mf mt ms mc:Int) (j:Nat):inB (gencF mi mk ml mg mf mt ms mc j):=by
 unfold gencF
 repeat' split
 all_goals exact in_dg _ _
theorem enc_i (mi mk ml:Int) (mg:Nat→Int) (mf mt ms mc:Int) (j:Nat) (h:j<8):gencF mi mk ml mg mf mt ms mc (0+j)=dg mi j:=by
 unfold gencF
 rw[if_pos (by omega)]
 exact congrArg (dg mi) (by omega)
theorem enc_k (mi mk ml:Int) (mg:Nat→Int) (mf mt ms mc:Int) (j:Nat) (h:j<1):gencF mi mk ml mg mf mt ms mc (8+j)=dg mk j:=by
 unfold gencF
 rw[if_neg (by omega),if_pos (by omega)]
 exact congrArg (dg mk) (by omega)
theorem enc_l (mi mk ml:Int) (mg:Nat→Int) (mf mt ms mc:Int) (j:Nat) (h:j<4):gencF mi mk ml mg mf mt ms mc (9+j)=dg ml j:=by
 unfold gencF
 rw[if_neg (by omega),if_neg (by omega),if_pos (by omega)]
 exact congrArg (dg ml) (by omega)
theorem enc_f (mi mk ml:Int) (mg:Nat→Int) (mf mt ms mc:Int) (j:Nat) (h:j<4):gencF mi mk ml mg mf mt ms mc (21+j)=dg mf j:=by
 unfold gencF
 rw[if_neg (by omega),if_neg (by omega),if_neg (by omega),if_neg (by omega),if_pos (by omega)]
 exact congrArg (dg mf) (by omega)
theorem enc_t (mi mk ml:Int) (mg:Nat→Int) (mf mt ms mc:Int) (j:Nat) (h:j<4):gencF mi mk ml mg mf mt ms mc (25+j)=dg mt j:=by
 unfold gencF
 rw[if_neg (by omega),if_neg (by omega),if_neg (by omega),if_neg (by omega),if_neg (by omega),if_pos (by omega)]
 exact congrArg (dg mt) (by omega)
theorem enc_s (mi mk ml:Int) (mg:Nat→Int) (mf mt ms mc:Int) (j:Nat) (h:j<4):gencF mi mk ml mg mf mt ms mc (29+j)=dg ms j:=by
 unfold gencF
 rw[if_neg (by omega),if_neg (by omega),if_neg (by omega),if_neg (by omega),if_neg (by omega),if_neg (by omega),if_pos (by omega)]
 exact congrArg (dg ms) (by omega)
theorem enc_c (mi mk ml:Int) (mg:Nat→Int) (mf mt ms mc:Int) (j:Nat) (h:j<2):gencF mi mk ml mg mf mt ms mc (33+j)=dg mc j:=by
 unfold gencF
 rw[if_neg (by omega),if_neg (by omega),if_neg (by omega),if_neg (by omega),if_neg (by omega),if_neg (by omega),if_neg (by omega)]
 exact congrArg (dg mc) (by omega)
theorem enc_g (mi mk ml:Int) (mg:Nat→Int) (mf mt ms mc:Int) (k j:Nat) (hk:k<8) (h:j<1):gencF mi mk ml mg mf mt ms mc (13+k+j)=dg (mg k) j:=by
 unfold gencF
 rw[if_neg (by omega),if_neg (by omega),if_neg (by omega),if_pos (by omega)]
 obtain rfl:j=0:=by omega
 exact congrArg (fun i=>dg (mg i) 0) (by omega)
def Fits (E:Nat→Int) (m W n:Nat) (g:Nat→Int):Prop:=∀ k i,k<n→i<W→E (m+W*k+i)=dg (g k) i
theorem outF_fits {E:Nat→Int} {m W n:Nat} {g:Nat→Int} (h:Fits E m W n g) {j:Nat} (hj:j<m+W*n):outF E m W g j=E j:=by
 by_cases hm:j<m
 ·exact outF_head _ _ _ _ hm
 ·by_cases hW:W=0
  ·subst hW
   omega
  ·have hd:W*((j - m)/W)+(j - m)%W=j - m:=Nat.div_add_mod _ _
   have hl:(j - m)%W<W:=Nat.mod_lt _ (by omega)
   have hk:(j - m)/W<n:=Nat.div_lt_of_lt_mul (by omega)
   have e:=h _ _ hk hl
   have e2:=outF_dg E m W g ((j - m)/W) _ hl
   rw[show m+W*((j - m)/W)+(j - m)%W=j by omega] at e e2
   rw[e2,e]
theorem fits_one {E:Nat→Int} {m W:Nat} {x:Int} (h:∀ i,i<W→E (m+i)=dg x i):Fits E m W 1 (fun _=>x):=fun k i hk hi=>by
 obtain rfl:k=0:=by omega
 rw[Nat.mul_zero,Nat.add_zero]
 exact h i hi
theorem putE_fit (W n:Nat) (g:Nat→Int) (h1:1≤W) (h8:W≤8) (h:∀ k,k<n→fitU W (g k)=true):putE fitU (W:Int) n g=0:=by
 unfold putE badW
 rw[if_neg (by simp;omega),Int.toNat_natCast,allB_iff.2 h]
 rfl
theorem fitU_of {W:Nat} {z P:Int} (hP:pw W=P) (h:z<P):fitU W z=true:=by
 unfold fitU
 rw[hP]
 exact decide_eq_true h
structure EncB (w:World) (B n:Nat) (E:Nat→Int):Prop where
 ex:∃ q c,Own B [.slice q n c] w∧BytN w q n E B∧n≤c∧c≤9223372036854775807
theorem EncB.lt {w:World} {B n:Nat} {E:Nat→Int} (h:EncB w B n E):B<w.heap.size:=by
 obtain⟨q,c,h1,_⟩:=h.ex
 exact h1.lt
theorem EncB.later {w w':World} {B n:Nat} {E:Nat→Int} (h:EncB w B n E) (hb:Below w.heap.size w w'):EncB w' B n E:=by
 obtain⟨q,c,h1,h2,h3⟩:=h.ex
 exact⟨q,c,h1.later hb,h2.later hb,h3⟩
theorem bytN_row {w:World} {base n B:Nat} {e:TypeId} {q:Option Addr} {m c:Nat} {f:Nat→Int} (h:w.ownsRow base e 1 (.slice q m c) n (nums .u8 f n)) (hB:B<base):BytN w q n f B:=by
 by_cases h0:n=0
 ·exact .inl h0
 ·refine .inr ?_
  rcases (byt_of_row h).2.1 with h1 | ⟨b,off,rfl,h2⟩
  ·exact absurd h1 h0
  ·refine⟨b,off,rfl,?_,h2⟩
   rintro rfl
   have:=row_ne h hB
   simp[Value.ownBlock] at this
theorem EncB.of_row {w:World} {base n B:Nat} {e:TypeId} {q:Option Addr} {m c:Nat} {f E:Nat→Int} (h:w.ownsRow base e 1 (.slice q m c) n (nums .u8 f n)) (hB:B<base) (hO:Own B [.slice q m c] w) (hf:∀ j,j<n→f j=E j):EncB w B n E:=by
 obtain⟨rfl,_,h3,h4⟩:=byt_of_row h
 refine⟨q,c,hO,?_,h3,h4⟩
 rcases bytN_row h hB with h5 | ⟨b,off,r1,r2,r3⟩
 ·exact .inl h5
 ·exact .inr ⟨b,off,r1,r2,by rw[← nums_congr .u8 hf];exact r3⟩
set_option maxHeartbeats 4000000 in
theorem Step_any (B W n m N:Nat) (wd:Int) (ew:wd=(W:Int)) (eN:m+W*n=N) (p:Option Addr) (c2:Nat) (g E:Nat→Int) (h1:1≤W) (h8:W≤8) (hg:∀ k,k<n→0≤g k∧g k≤18446744073709551615∧fitU W (g k)=true) (hE:Fits E m W n g) (hnc:n≤c2) (hc2:c2≤9223372036854775807) (hm:m≤1000) (hn:n≤1000) (w:World) (hB:EncB w B m E) (hp:Nm w .u64 p n g) :
  Calls Tryz.prog 59 #[.int .i64 wd,.slice p n c2,.pointer (some ⟨B,0,none⟩)] w fun e w'=>e = .returned (.tuple #[])∧EncB w' B N E∧But B w w':=by
 subst ew
 obtain⟨q,c,hO,hq,hmc,hcx⟩:=hB.ex
 have E0:=putE_fit W n g h1 h8 (fun k hk=>(hg k hk).2.2)
 have P1:=Lib.hid (fun w hq hp=>Put_any q p m c n c2 (W:Int) E g (fun k hk=>⟨(hg k hk).1,(hg k hk).2.1⟩) hmc hcx hnc hc2 (by omega) w hq hp)
 rw[E0,Int.toNat_natCast,show putL m n (W:Int) 0=m+W*n by simp[putL],eN] at P1
 have FE:=Lib.hid (fun j (hj:j<N)=>outF_fits hE (by rw[eN];exact hj))
 have HQ:=Lib.hid hq.byt;have HP:=Lib.hid hp;have HO:=Lib.hid hO
 have Bl:=hO.lt
 have B0:=hO.at 0 _ rfl
 have BF:=hO.ok 0 (by simp)
 clear h1 h8 hg hE hnc hc2 hm hn hB hp hq hmc hcx hO E0 eN
 go_enter Tryz.func59,Tryz.ntmps59
 go_wp2_with (fail)
 go_at_call 36
 refine (P1.out _ HQ.out HP.out).mono ?_
 rintro e w1 ⟨v,rfl,hrow,hb⟩
 obtain⟨p1,d1,rfl,hd1⟩:=row_form hrow
 have O1:=HO.out.later hb
 have C0:=O1.ok 0 (by simp)
 have C1:=O1.at 0 _ rfl
 have Cl:=O1.lt
 have OS:Own B [.slice p1 N d1] (w1.setCells B 0 [.slice p1 N d1]):=Own.store O1 rfl
 have ROW:(w1.setCells B 0 [.slice p1 N d1]).ownsRow w.heap.size 5 1 (.slice p1 N d1) N (nums .u8 (outF E m W g) N):=row_far hrow (row_ne hrow Bl) 0 _
 have RES:=Lib.hid (EncB.of_row ROW Bl OS FE.out)
 have BT:But B w (w1.setCells B 0 [.slice p1 N d1]):=(But.of hb Bl).trans But.store
 have BT:=Lib.hid BT
 clear hrow hb O1 OS ROW B0 BF P1 HQ HP HO FE
 go_wp2_with (fail)
 refine bodyPost_end (results_none rfl _ _ _) rfl ?_
 exact⟨rfl,RES.out,BT.out⟩
end Go.Proofs.YtbilamnnneddmaaGreatDoor
namespace Go.Proofs.YtbilamnnneddmaaGreatDoor
set_option linter.unusedVariables false
set_option maxRecDepth 2000
set_option linter.unusedSimpArgs false
open Go.RowKit
def gerN (N t:Nat):Int:=if t≤N then 0 else 4
def gvalN (F:Nat→Int) (N t W:Nat):Int:=if t+W≤N then leN (fun j=>F (t+j)) W else 0
theorem gin_valN {F:Nat→Int} {N:Nat} (hF:∀ j,j<N→inB (F j)) (t W:Nat):0≤gvalN F N t W∧gvalN F N t W<pw W:=by
 unfold gvalN
 split
 ·exact leN_lt _ _ fun j hj=>hF _ (by omega)
 ·exact⟨by decide,pw_pos W⟩
theorem gnxw_ok (W N at_:Nat) (h1:1≤W) (h8:W≤8) (h:at_+W≤N):nxE N at_ 0 (W:Int) 1 8=0∧nxA at_ (W:Int) 0=at_+W:=by
 constructor
 ·unfold nxE
  rw[if_neg (by simp),if_neg (by omega),if_neg (by omega)]
 ·simp[nxA]
theorem gnxw_short (W N at_:Nat) (h1:1≤W) (h8:W≤8) (h:N - at_<W):nxE N at_ 0 (W:Int) 1 8=4:=by
 unfold nxE
 rw[if_neg (by simp),if_neg (by omega),if_pos (by omega)]
theorem gnxw_err (N at_:Nat) (x:Int):nxE N at_ 4 x 1 8=4:=by
 unfold nxE
 rw[if_pos (by decide)]
theorem Rd.gstill {w:World} {K D N at_:Nat} {er:Int} {F:Nat→Int} (h:Rd w K D F N at_ er) (he:er≠0) (t:Nat):Rd w K D F N t er:=by
 obtain⟨p,c,h1,h2,h3,h4⟩:=h.ex
 have l0:∀ s,leftN N s er=0:=fun s=>if_neg he
 refine⟨p,c,?_,?_,?_,h4⟩
 ·rw[l0] at h1 ⊢
  exact h1
 ·rw[l0]
  exact .inl rfl
 ·rw[l0]
  exact Nat.zero_le _
theorem gNum_next {K D N t:Nat} {F:Nat→Int} {w:World} (W T:Nat) (wd:Int) (ew:wd=(W:Int)) (eT:t+W=T) (h1:1≤W) (h8:W≤8) (hF:∀ j,j<N→inB (F j)) (h:Rd w K D F N t (gerN N t)) :
  Calls Tryz.prog 108 #[.pointer (some ⟨K,0,none⟩),.int .i64 wd] w fun e w'=>e = .returned (.int .u64 (gvalN F N t W))∧Rd w' K D F N T (gerN N T)∧But K w w':=by
 subst ew
 subst eT
 have NA:=Num_any (W:Int) hF h
 by_cases ht:t≤N
 ·rw[show gerN N t=0 from if_pos ht] at NA
  by_cases hw:t+W≤N
  ·rw[(gnxw_ok W N t h1 h8 hw).1,(gnxw_ok W N t h1 h8 hw).2] at NA
   rw[show gerN N (t+W)=0 from if_pos hw,show gvalN F N t W=leN (fun j=>F (t+j)) W from if_pos hw]
   have e:numF F t (W:Int) 0=leN (fun j=>F (t+j)) W:=by
    unfold numF
    rw[show nxL (W:Int) 0=W by simp[nxL]]
   rw[e] at NA
   exact NA
  ·rw[gnxw_short W N t h1 h8 (by omega)] at NA
   rw[show gerN N (t+W)=4 from if_neg hw,show gvalN F N t W=0 from if_neg hw]
   exact NA.mono fun e w' hh=>⟨hh.1,hh.2.1.gstill (by decide) _,hh.2.2⟩
 ·have hw:¬t+W≤N:=by omega
  rw[show gerN N t=4 from if_neg ht,gnxw_err] at NA
  rw[show gerN N (t+W)=4 from if_neg hw,show gvalN F N t W=0 from if_neg hw]
  exact NA.mono fun e w' hh=>⟨hh.1,hh.2.1.gstill (by decide) _,hh.2.2⟩
theorem But.gnews {K M o:Nat} {a b:World} {vs:List Value} (h:But K a b) (hM:a.heap.size≤M) (hK:K<a.heap.size):But K a (b.setCells M o vs) :=
 ⟨Below.setCells h.below (by omega) vs o,fun i hi hn=>(World.heap_setCells_other b M o vs (Nat.lt_of_lt_of_le hi h.below.size) (by omega)).trans (h.heap i hi hn)⟩
def mskN (F:Nat→Int) (N j:Nat):Int:=gvalN F N (13+j) 1
def mskF (G:Nat→Int) (k j:Nat):Int:=if j<k then G j else 0
theorem msk_over (mi mk ml:Int) (G:Nat→Int) (mf mt ms mc:Int) (k:Nat) (hk:k<8):over [.int .u64 mi,.int .i64 mk,.int .u32 ml,.int .u8 ((mskF G k) 0),.int .u8 ((mskF G k) 1),.int .u8 ((mskF G k) 2),.int .u8 ((mskF G k) 3),.int .u8 ((mskF G k) 4),.int .u8 ((mskF G k) 5),.int .u8 ((mskF G k) 6),.int .u8 ((mskF G k) 7),.int .u32 mf,.int .u32 mt,.int .i64 ms,.int .i64 mc] (3+k) [.int .u8 (G k)]=[.int .u64 mi,.int .i64 mk,.int .u32 ml,.int .u8 ((mskF G (k+1)) 0),.int .u8 ((mskF G (k+1)) 1),.int .u8 ((mskF G (k+1)) 2),.int .u8 ((mskF G (k+1)) 3),.int .u8 ((mskF G (k+1)) 4),.int .u8 ((mskF G (k+1)) 5),.int .u8 ((mskF G (k+1)) 6),.int .u8 ((mskF G (k+1)) 7),.int .u32 mf,.int .u32 mt,.int .i64 ms,.int .i64 mc]:=match k,hk with
 | 0,_=>rfl
 | 1,_=>rfl
 | 2,_=>rfl
 | 3,_=>rfl
 | 4,_=>rfl
 | 5,_=>rfl
 | 6,_=>rfl
 | 7,_=>rfl
end Go.Proofs.YtbilamnnneddmaaGreatDoor
namespace Go.Proofs.YtbilamnnneddmaaGreatDoor
set_option linter.unusedVariables false
set_option maxRecDepth 2000
set_option linter.unusedSimpArgs false
open Go.RowKit
theorem mask_cell (mi mk ml:Int) (mg:Nat→Int) (mf mt ms mc:Int) (k:Nat) (hk:k<8):([.int .u64 mi,.int .i64 mk,.int .u32 ml,.int .u8 (mg 0),.int .u8 (mg 1),.int .u8 (mg 2),.int .u8 (mg 3),.int .u8 (mg 4),.int .u8 (mg 5),.int .u8 (mg 6),.int .u8 (mg 7),.int .u32 mf,.int .u32 mt,.int .i64 ms,.int .i64 mc]:List Value)[3+k]?=some (.int .u8 (mg k)):=match k,hk with
 | 0,_=>rfl
 | 1,_=>rfl
 | 2,_=>rfl
 | 3,_=>rfl
 | 4,_=>rfl
 | 5,_=>rfl
 | 6,_=>rfl
 | 7,_=>rfl
end Go.Proofs.YtbilamnnneddmaaGreatDoor
namespace Go.Proofs.YtbilamnnneddmaaGreatDoor
set_option linter.unusedVariables false
set_option maxRecDepth 2000
set_option linter.unusedSimpArgs false
open Go.RowKit
set_option maxHeartbeats 16000000 in
theorem Man_any (K D N:Nat) (F:Nat→Int) (hF:∀ j,j<N→inB (F j)) (w:World) (h:Rd w K D F N 0 0) (hD:D<w.heap.size) :
  Calls Tryz.prog 70 #[.agg #[.pointer (some ⟨K,0,none⟩)]] w fun e w'=>e = .returned (.agg #[.int .u64 (gvalN F N 0 8),.int .i64 (gvalN F N 8 1),.int .u32 (gvalN F N 9 4),.int .u8 (mskN F N 0),.int .u8 (mskN F N 1),.int .u8 (mskN F N 2),.int .u8 (mskN F N 3),.int .u8 (mskN F N 4),.int .u8 (mskN F N 5),.int .u8 (mskN F N 6),.int .u8 (mskN F N 7),.int .u32 (gvalN F N 21 4),.int .u32 (gvalN F N 25 4),.int .i64 (gvalN F N 29 4),.int .i64 (gvalN F N 33 2)])∧Rd w' K D F N 35 (gerN N 35)∧But K w w':=by
 have h0:Rd w K D F N 0 (gerN N 0):=by rw[show gerN N 0=0 from if_pos (Nat.zero_le _)];exact h
 have HR:=Lib.hid h0
 have p8:=pw_vals.2.2.2.2.2.2.2;have p1:=pw_vals.1;have p4:=pw_vals.2.2.2.1;have p2:=pw_vals.2.1
 have b1:=gin_valN hF 8 1;have b2:=gin_valN hF 9 4;have b3:=Lib.hid (fun j=>gin_valN hF (13+j) 1);have b4:=gin_valN hF 21 4;have b5:=gin_valN hF 25 4;have b6:=gin_valN hF 29 4;have b7:=gin_valN hF 33 2
 rw[p1] at b1
 rw[p4] at b2 b4 b5 b6
 rw[p2] at b7
 have Sx0:=Lib.hid (fun w h=>gNum_next (K:=K) (D:=D) (N:=N) (t:=0) (F:=F) (w:=w) 8 8 8 rfl rfl (by decide) (by decide) hF h)
 have Sx1:=Lib.hid (fun w h=>gNum_next (K:=K) (D:=D) (N:=N) (t:=8) (F:=F) (w:=w) 1 9 1 rfl rfl (by decide) (by decide) hF h)
 have Sx2:=Lib.hid (fun w h=>gNum_next (K:=K) (D:=D) (N:=N) (t:=9) (F:=F) (w:=w) 4 13 4 rfl rfl (by decide) (by decide) hF h)
 have Sx4:=Lib.hid (fun w h=>gNum_next (K:=K) (D:=D) (N:=N) (t:=21) (F:=F) (w:=w) 4 25 4 rfl rfl (by decide) (by decide) hF h)
 have Sx5:=Lib.hid (fun w h=>gNum_next (K:=K) (D:=D) (N:=N) (t:=25) (F:=F) (w:=w) 4 29 4 rfl rfl (by decide) (by decide) hF h)
 have Sx6:=Lib.hid (fun w h=>gNum_next (K:=K) (D:=D) (N:=N) (t:=29) (F:=F) (w:=w) 4 33 4 rfl rfl (by decide) (by decide) hF h)
 have Sx7:=Lib.hid (fun w h=>gNum_next (K:=K) (D:=D) (N:=N) (t:=33) (F:=F) (w:=w) 2 35 2 rfl rfl (by decide) (by decide) hF h)
 have SG:Hid (∀ k w,Rd w K D F N (13+k) (gerN N (13+k))→Calls Tryz.prog 108 #[.pointer (some ⟨K,0,none⟩),.int .i64 1] w fun e w'=>e = .returned (.int .u64 (mskN F N k))∧Rd w' K D F N (13+(k+1)) (gerN N (13+(k+1)))∧But K w w'):=Lib.hid (fun k w h=>gNum_next (K:=K) (D:=D) (N:=N) (t:=13+k) (F:=F) (w:=w) 1 (13+(k+1)) 1 rfl (by omega) (by decide) (by decide) hF h)
 have RG:=Lib.hid (fun j=>show IntKind.u8.wrap (mskN F N j)=mskN F N j by have:=b3.out j;rw[p1] at this;rw[IntKind.wrap_u8'];unfold mskN;omega)
 have MO:=Lib.hid (fun x0 x1 x2 k hk=>msk_over x0 x1 x2 (mskN F N) 0 0 0 0 k hk)
 have Kl:=h.lt
 clear h h0 p8 p1 p4 p2 b3
 generalize gvalN F N 0 8=x0 at *
 generalize gvalN F N 8 1=x1 at *
 generalize gvalN F N 9 4=x2 at *
 generalize gvalN F N 21 4=x4 at *
 generalize gvalN F N 25 4=x5 at *
 generalize gvalN F N 29 4=x6 at *
 generalize gvalN F N 33 2=x7 at *
 have r1:IntKind.i64.wrap x1=x1:=IntWalk.i64_in _ (by omega)
 have r2:IntKind.u32.wrap x2=x2:=IntWalk.u32_in _ (by omega)
 have r4:IntKind.u32.wrap x4=x4:=IntWalk.u32_in _ (by omega)
 have r5:IntKind.u32.wrap x5=x5:=IntWalk.u32_in _ (by omega)
 have r6:IntKind.i64.wrap x6=x6:=IntWalk.i64_in _ (by omega)
 have r7:IntKind.i64.wrap x7=x7:=IntWalk.i64_in _ (by omega)
 generalize mskN F N=G at *
 clear b1 b2 b4 b5 b6 b7
 go_enter Tryz.func70,Tryz.ntmps70
 go_upto_region 1 with fail
 obtain⟨W0,hW⟩:∃ W0,W0=((w.alloc (.cells #[.pointer (some ⟨K,0,none⟩)] 120)).alloc (.cells #[.int .u64 0,.int .i64 0,.int .u32 0,.int .u8 0,.int .u8 0,.int .u8 0,.int .u8 0,.int .u8 0,.int .u8 0,.int .u8 0,.int .u8 0,.int .u32 0,.int .u32 0,.int .i64 0,.int .i64 0] 27)):=⟨_,rfl⟩
 have hB0:Below w.heap.size w W0:=hW ▸ (Below.al (Below.al (Below.refl _ _)))
 have HQ:Hid (Own w.heap.size ([.pointer (some ⟨K,0,none⟩)]) W0):=Lib.hid (hW ▸ (show Own w.heap.size ([.pointer (some ⟨K,0,none⟩)]) (w.alloc (.cells #[.pointer (some ⟨K,0,none⟩)] 120)) from Own.newAt (by simp)).alloc)
 have HM:Hid (Own (w.heap.size+1) ([.int .u64 0,.int .i64 0,.int .u32 0,.int .u8 0,.int .u8 0,.int .u8 0,.int .u8 0,.int .u8 0,.int .u8 0,.int .u8 0,.int .u8 0,.int .u32 0,.int .u32 0,.int .i64 0,.int .i64 0]) W0):=Lib.hid (hW ▸ (show Own (w.heap.size+1) ([.int .u64 0,.int .i64 0,.int .u32 0,.int .u8 0,.int .u8 0,.int .u8 0,.int .u8 0,.int .u8 0,.int .u8 0,.int .u8 0,.int .u8 0,.int .u32 0,.int .u32 0,.int .i64 0,.int .i64 0]) ((w.alloc (.cells #[.pointer (some ⟨K,0,none⟩)] 120)).alloc (.cells #[.int .u64 0,.int .i64 0,.int .u32 0,.int .u8 0,.int .u8 0,.int .u8 0,.int .u8 0,.int .u8 0,.int .u8 0,.int .u8 0,.int .u8 0,.int .u32 0,.int .u32 0,.int .i64 0,.int .i64 0] 27)) from Own.newAt (by simp)))
 rw[← hW]
 clear hW
 obtain⟨M,eM⟩:∃ X,X=(w.heap.size+1):=⟨_,rfl⟩
 rw[← eM] at HM ⊢
 have Mw:w.heap.size≤M:=by omega
 obtain⟨Q,eQ⟩:∃ X,X=w.heap.size:=⟨_,rfl⟩
 rw[← eQ] at HQ ⊢
 have Qw:w.heap.size≤Q:=by omega
 have nQM:Q≠M:=by omega
 have nMQ:M≠Q:=by omega
 clear eQ eM
 have nQK:Q≠K:=by omega
 have nMK:M≠K:=by omega
 have nKM:K≠M:=by omega
 have nDM:D≠M:=by omega
 have HR0:=Lib.hid (HR.out.later hB0)
 have HB0:=Lib.hid (But.of hB0 Kl)
 have MW:=Lib.hid Mw;have KL:=Lib.hid Kl
 clear HR hB0 hD
 have Q0:=HQ.out.at 0 _ rfl
 have Ql:=HQ.out.lt
 go_wp2_with (fail)
 go_at_call 108
 refine (Sx0.out _ HR0.out).mono ?_
 rintro e y1 ⟨rfl,h1,h2⟩
 have HR1:=Lib.hid h1
 have HM1:=Lib.hid (HM.out.but h2 nMK)
 have HQ1:=Lib.hid (HQ.out.but h2 nQK)
 have HB1:=Lib.hid (HB0.out.trans h2)
 have Mf:=HM1.out.ok 0 (by simp)
 have Mc:=HM1.out.at 0 _ rfl
 have Ml:=HM1.out.lt
 clear h1 h2 HR0 HB0 HM HQ Q0 Ql
 go_upto_region 2 with fail
 rw[show y1.setCell ⟨M,0,none⟩ (.int .u64 x0)=y1.setCells M 0 [.int .u64 x0] from rfl]
 have HM:Hid (Own M [.int .u64 x0,.int .i64 0,.int .u32 0,.int .u8 0,.int .u8 0,.int .u8 0,.int .u8 0,.int .u8 0,.int .u8 0,.int .u8 0,.int .u8 0,.int .u32 0,.int .u32 0,.int .i64 0,.int .i64 0] (y1.setCells M 0 [.int .u64 x0])):=Lib.hid (show Own M (over _ 0 [.int .u64 x0]) _ from Own.part HM1.out (by simp))
 have hbm:But M y1 (y1.setCells M 0 [.int .u64 x0]):=But.store
 have HQ:=Lib.hid (HQ1.out.but hbm nQM)
 have HR2:=Lib.hid (HR1.out.far hbm nKM nDM)
 have HB2:=Lib.hid (HB1.out.gnews (o:=0) (vs:=[.int .u64 x0]) MW.out KL.out)
 clear hbm HR1 HB1 HM1 HQ1 Mf Ml Mc
 generalize y1.setCells M 0 [.int .u64 x0]=W1 at *
 have Q0:=HQ.out.at 0 _ rfl
 have Ql:=HQ.out.lt
 go_wp2_with (fail)
 go_at_call 108
 refine (Sx1.out _ HR2.out).mono ?_
 rintro e y1 ⟨rfl,h1,h2⟩
 have HR3:=Lib.hid h1
 have HM1:=Lib.hid (HM.out.but h2 nMK)
 have HQ1:=Lib.hid (HQ.out.but h2 nQK)
 have HB3:=Lib.hid (HB2.out.trans h2)
 have Mf:=HM1.out.ok 1 (by simp)
 have Mc:=HM1.out.at 1 _ rfl
 have Ml:=HM1.out.lt
 clear h1 h2 HR2 HB2 HM HQ Q0 Ql
 go_upto_region 3 with fail
 rw[show y1.setCell ⟨M,1,none⟩ (.int .i64 x1)=y1.setCells M 1 [.int .i64 x1] from rfl]
 have HM:Hid (Own M [.int .u64 x0,.int .i64 x1,.int .u32 0,.int .u8 0,.int .u8 0,.int .u8 0,.int .u8 0,.int .u8 0,.int .u8 0,.int .u8 0,.int .u8 0,.int .u32 0,.int .u32 0,.int .i64 0,.int .i64 0] (y1.setCells M 1 [.int .i64 x1])):=Lib.hid (show Own M (over _ 1 [.int .i64 x1]) _ from Own.part HM1.out (by simp))
 have hbm:But M y1 (y1.setCells M 1 [.int .i64 x1]):=But.store
 have HQ:=Lib.hid (HQ1.out.but hbm nQM)
 have HR4:=Lib.hid (HR3.out.far hbm nKM nDM)
 have HB4:=Lib.hid (HB3.out.gnews (o:=1) (vs:=[.int .i64 x1]) MW.out KL.out)
 clear hbm HR3 HB3 HM1 HQ1 Mf Ml Mc
 generalize y1.setCells M 1 [.int .i64 x1]=W2 at *
 have Q0:=HQ.out.at 0 _ rfl
 have Ql:=HQ.out.lt
 go_wp2_with (fail)
 go_at_call 108
 refine (Sx2.out _ HR4.out).mono ?_
 rintro e y1 ⟨rfl,h1,h2⟩
 have HR5:=Lib.hid h1
 have HM1:=Lib.hid (HM.out.but h2 nMK)
 have HQ1:=Lib.hid (HQ.out.but h2 nQK)
 have HB5:=Lib.hid (HB4.out.trans h2)
 have Mf:=HM1.out.ok 2 (by simp)
 have Mc:=HM1.out.at 2 _ rfl
 have Ml:=HM1.out.lt
 clear h1 h2 HR4 HB4 HM HQ Q0 Ql
 go_upto_region 4 with fail
 rw[show y1.setCell ⟨M,2,none⟩ (.int .u32 x2)=y1.setCells M 2 [.int .u32 x2] from rfl]
 have HM:Hid (Own M [.int .u64 x0,.int .i64 x1,.int .u32 x2,.int .u8 0,.int .u8 0,.int .u8 0,.int .u8 0,.int .u8 0,.int .u8 0,.int .u8 0,.int .u8 0,.int .u32 0,.int .u32 0,.int .i64 0,.int .i64 0] (y1.setCells M 2 [.int .u32 x2])):=Lib.hid (show Own M (over _ 2 [.int .u32 x2]) _ from Own.part HM1.out (by simp))
 have hbm:But M y1 (y1.setCells M 2 [.int .u32 x2]):=But.store
 have HQ:=Lib.hid (HQ1.out.but hbm nQM)
 have HR6:=Lib.hid (HR5.out.far hbm nKM nDM)
 have HB6:=Lib.hid (HB5.out.gnews (o:=2) (vs:=[.int .u32 x2]) MW.out KL.out)
 clear hbm HR5 HB5 HM1 HQ1 Mf Ml Mc
 generalize y1.setCells M 2 [.int .u32 x2]=W3 at *
 have HMS:Hid (Own M [.int .u64 x0,.int .i64 x1,.int .u32 x2,.int .u8 (mskF G 0 0),.int .u8 (mskF G 0 1),.int .u8 (mskF G 0 2),.int .u8 (mskF G 0 3),.int .u8 (mskF G 0 4),.int .u8 (mskF G 0 5),.int .u8 (mskF G 0 6),.int .u8 (mskF G 0 7),.int .u32 0,.int .u32 0,.int .i64 0,.int .i64 0] W3):=Lib.hid (show Own M [.int .u64 x0,.int .i64 x1,.int .u32 x2,.int .u8 0,.int .u8 0,.int .u8 0,.int .u8 0,.int .u8 0,.int .u8 0,.int .u8 0,.int .u8 0,.int .u32 0,.int .u32 0,.int .i64 0,.int .i64 0] W3 from HM.out)
 clear HM
 go_wp2_with (fail)
 go_loopw [3,18] (fun _ iv wr=>∃ (k:Nat),k≤8∧iv = .int .i64 k∧Hid (Rd wr K D F N (13+k) (gerN N (13+k)))∧Hid (Own M [.int .u64 x0,.int .i64 x1,.int .u32 x2,.int .u8 (mskF G k 0),.int .u8 (mskF G k 1),.int .u8 (mskF G k 2),.int .u8 (mskF G k 3),.int .u8 (mskF G k 4),.int .u8 (mskF G k 5),.int .u8 (mskF G k 6),.int .u8 (mskF G k 7),.int .u32 0,.int .u32 0,.int .i64 0,.int .i64 0] wr)∧Hid (Own Q [.pointer (some ⟨K,0,none⟩)] wr)∧Hid (But K w wr)) (fun _ iv _=>(8 - (intOf iv).toNat))
 case atStart=>exact⟨0,Nat.zero_le _,rfl,HR6,HMS,HQ,HB6⟩
 case round =>
  clear HR6 HMS HQ HB6
  obtain⟨k,hk,rfl,HR,HM,HQ,HB⟩:=hrel
  by_cases hlt:k<8
  ·have hki:(k:Int)<8:=by omega
   have k0:(0:Int)≤(k:Int):=by omega
   have wk:IntKind.i64.wrap ((k:Int)+1)=(k:Int)+1:=IntWalk.i64_in _ (by omega)
   have HLT:=Lib.hid (show k+1≤8 by omega)
   have rx:=RG.out k
   have SK:=Lib.hid (SG.out k)
   have MOk:=Lib.hid (MO.out x0 x1 x2 k hlt)
   generalize G k=x at rx SK MOk
   clear hlt hk RG SG MO Sx0 Sx1 Sx2 Sx4 Sx5 Sx6 Sx7
   have Q0:=HQ.out.at 0 _ rfl
   have Ql:=HQ.out.lt
   go_wp2_with (fail)
   go_at_call 108
   refine (SK.out _ HR.out).mono ?_
   rintro e y1 ⟨rfl,h1,h2⟩
   have HR1:=Lib.hid h1
   have HM1:=Lib.hid (HM.out.but h2 nMK)
   have HQ1:=Lib.hid (HQ.out.but h2 nQK)
   have HB1:=Lib.hid (HB.out.trans h2)
   have Mf:=HM1.out.ok (3+k) (by have:=HLT.out;simp;omega)
   have Mc:=HM1.out.at (3+k) _ (mask_cell x0 x1 x2 (mskF G k) 0 0 0 0 k (by have:=HLT.out;omega))
   have Ml:=HM1.out.lt
   clear h1 h2 HR HB HM HQ Q0 Ql
   go_upto_region 8 with fail
   rw[show y1.setCell ⟨M,3+k,none⟩ (.int .u8 x)=y1.setCells M (3+k) [.int .u8 x] from rfl]
   have HM:Hid (Own M [.int .u64 x0,.int .i64 x1,.int .u32 x2,.int .u8 (mskF G (k+1) 0),.int .u8 (mskF G (k+1) 1),.int .u8 (mskF G (k+1) 2),.int .u8 (mskF G (k+1) 3),.int .u8 (mskF G (k+1) 4),.int .u8 (mskF G (k+1) 5),.int .u8 (mskF G (k+1) 6),.int .u8 (mskF G (k+1) 7),.int .u32 0,.int .u32 0,.int .i64 0,.int .i64 0] (y1.setCells M (3+k) [.int .u8 x])):=Lib.hid (by rw[← MOk.out];exact Own.part HM1.out (by have:=HLT.out;simp;omega))
   have hbm:But M y1 (y1.setCells M (3+k) [.int .u8 x]):=But.store
   have HQ:=Lib.hid (HQ1.out.but hbm nQM)
   have HR2:=Lib.hid (HR1.out.far hbm nKM nDM)
   have HB2:=Lib.hid (HB1.out.gnews (o:=3+k) (vs:=[.int .u8 x]) MW.out KL.out)
   clear hbm HR1 HB1 HM1 HQ1 Mf Ml Mc
   generalize y1.setCells M (3+k) [.int .u8 x]=y2 at *
   go_wp2_with (fail)
   go_roundw
   case rel=>(first | exact⟨k+1,HLT.out,by go_num,HR2,HM,HQ,HB2⟩ | ((repeat apply Exists.intro);exact⟨⟨k+1,HLT.out,by go_num,HR2,HM,HQ,HB2⟩,rfl⟩))
   case measure=>(have:=HLT.out;simp[intOf];omega)
  ·obtain rfl:k=8:=by omega
   clear hlt hk RG SG MO
   have HMS:Hid (Own M [.int .u64 x0,.int .i64 x1,.int .u32 x2,.int .u8 (G 0),.int .u8 (G 1),.int .u8 (G 2),.int .u8 (G 3),.int .u8 (G 4),.int .u8 (G 5),.int .u8 (G 6),.int .u8 (G 7),.int .u32 0,.int .u32 0,.int .i64 0,.int .i64 0] wr):=Lib.hid (show Own M [.int .u64 x0,.int .i64 x1,.int .u32 x2,.int .u8 (mskF G 8 0),.int .u8 (mskF G 8 1),.int .u8 (mskF G 8 2),.int .u8 (mskF G 8 3),.int .u8 (mskF G 8 4),.int .u8 (mskF G 8 5),.int .u8 (mskF G 8 6),.int .u8 (mskF G 8 7),.int .u32 0,.int .u32 0,.int .i64 0,.int .i64 0] wr from HM.out)
   have HR20:Hid (Rd wr K D F N 21 (gerN N 21)):=Lib.hid HR.out
   have HB20:=Lib.hid HB.out
   clear HM HR HB
   have HM:=HMS
   clear HMS
   have Q0:=HQ.out.at 0 _ rfl
   have Ql:=HQ.out.lt
   go_wp2_with (fail)
   go_at_call 108
   refine (Sx4.out _ HR20.out).mono ?_
   rintro e y1 ⟨rfl,h1,h2⟩
   have HR21:=Lib.hid h1
   have HM1:=Lib.hid (HM.out.but h2 nMK)
   have HQ1:=Lib.hid (HQ.out.but h2 nQK)
   have HB21:=Lib.hid (HB20.out.trans h2)
   have Mf:=HM1.out.ok 11 (by simp)
   have Mc:=HM1.out.at 11 _ rfl
   have Ml:=HM1.out.lt
   clear h1 h2 HR20 HB20 HM HQ Q0 Ql
   go_upto_region 10 with fail
   rw[show y1.setCell ⟨M,11,none⟩ (.int .u32 x4)=y1.setCells M 11 [.int .u32 x4] from rfl]
   have HM:Hid (Own M [.int .u64 x0,.int .i64 x1,.int .u32 x2,.int .u8 (G 0),.int .u8 (G 1),.int .u8 (G 2),.int .u8 (G 3),.int .u8 (G 4),.int .u8 (G 5),.int .u8 (G 6),.int .u8 (G 7),.int .u32 x4,.int .u32 0,.int .i64 0,.int .i64 0] (y1.setCells M 11 [.int .u32 x4])):=Lib.hid (show Own M (over _ 11 [.int .u32 x4]) _ from Own.part HM1.out (by simp))
   have hbm:But M y1 (y1.setCells M 11 [.int .u32 x4]):=But.store
   have HQ:=Lib.hid (HQ1.out.but hbm nQM)
   have HR22:=Lib.hid (HR21.out.far hbm nKM nDM)
   have HB22:=Lib.hid (HB21.out.gnews (o:=11) (vs:=[.int .u32 x4]) MW.out KL.out)
   clear hbm HR21 HB21 HM1 HQ1 Mf Ml Mc
   generalize y1.setCells M 11 [.int .u32 x4]=V1 at *
   have Q0:=HQ.out.at 0 _ rfl
   have Ql:=HQ.out.lt
   go_wp2_with (fail)
   go_at_call 108
   refine (Sx5.out _ HR22.out).mono ?_
   rintro e y1 ⟨rfl,h1,h2⟩
   have HR23:=Lib.hid h1
   have HM1:=Lib.hid (HM.out.but h2 nMK)
   have HQ1:=Lib.hid (HQ.out.but h2 nQK)
   have HB23:=Lib.hid (HB22.out.trans h2)
   have Mf:=HM1.out.ok 12 (by simp)
   have Mc:=HM1.out.at 12 _ rfl
   have Ml:=HM1.out.lt
   clear h1 h2 HR22 HB22 HM HQ Q0 Ql
   go_upto_region 11 with fail
   rw[show y1.setCell ⟨M,12,none⟩ (.int .u32 x5)=y1.setCells M 12 [.int .u32 x5] from rfl]
   have HM:Hid (Own M [.int .u64 x0,.int .i64 x1,.int .u32 x2,.int .u8 (G 0),.int .u8 (G 1),.int .u8 (G 2),.int .u8 (G 3),.int .u8 (G 4),.int .u8 (G 5),.int .u8 (G 6),.int .u8 (G 7),.int .u32 x4,.int .u32 x5,.int .i64 0,.int .i64 0] (y1.setCells M 12 [.int .u32 x5])):=Lib.hid (show Own M (over _ 12 [.int .u32 x5]) _ from Own.part HM1.out (by simp))
   have hbm:But M y1 (y1.setCells M 12 [.int .u32 x5]):=But.store
   have HQ:=Lib.hid (HQ1.out.but hbm nQM)
   have HR24:=Lib.hid (HR23.out.far hbm nKM nDM)
   have HB24:=Lib.hid (HB23.out.gnews (o:=12) (vs:=[.int .u32 x5]) MW.out KL.out)
   clear hbm HR23 HB23 HM1 HQ1 Mf Ml Mc
   generalize y1.setCells M 12 [.int .u32 x5]=V2 at *
   have Q0:=HQ.out.at 0 _ rfl
   have Ql:=HQ.out.lt
   go_wp2_with (fail)
   go_at_call 108
   refine (Sx6.out _ HR24.out).mono ?_
   rintro e y1 ⟨rfl,h1,h2⟩
   have HR25:=Lib.hid h1
   have HM1:=Lib.hid (HM.out.but h2 nMK)
   have HQ1:=Lib.hid (HQ.out.but h2 nQK)
   have HB25:=Lib.hid (HB24.out.trans h2)
   have Mf:=HM1.out.ok 13 (by simp)
   have Mc:=HM1.out.at 13 _ rfl
   have Ml:=HM1.out.lt
   clear h1 h2 HR24 HB24 HM HQ Q0 Ql
   go_upto_region 12 with fail
   rw[show y1.setCell ⟨M,13,none⟩ (.int .i64 x6)=y1.setCells M 13 [.int .i64 x6] from rfl]
   have HM:Hid (Own M [.int .u64 x0,.int .i64 x1,.int .u32 x2,.int .u8 (G 0),.int .u8 (G 1),.int .u8 (G 2),.int .u8 (G 3),.int .u8 (G 4),.int .u8 (G 5),.int .u8 (G 6),.int .u8 (G 7),.int .u32 x4,.int .u32 x5,.int .i64 x6,.int .i64 0] (y1.setCells M 13 [.int .i64 x6])):=Lib.hid (show Own M (over _ 13 [.int .i64 x6]) _ from Own.part HM1.out (by simp))
   have hbm:But M y1 (y1.setCells M 13 [.int .i64 x6]):=But.store
   have HQ:=Lib.hid (HQ1.out.but hbm nQM)
   have HR26:=Lib.hid (HR25.out.far hbm nKM nDM)
   have HB26:=Lib.hid (HB25.out.gnews (o:=13) (vs:=[.int .i64 x6]) MW.out KL.out)
   clear hbm HR25 HB25 HM1 HQ1 Mf Ml Mc
   generalize y1.setCells M 13 [.int .i64 x6]=V3 at *
   have Q0:=HQ.out.at 0 _ rfl
   have Ql:=HQ.out.lt
   go_wp2_with (fail)
   go_at_call 108
   refine (Sx7.out _ HR26.out).mono ?_
   rintro e y1 ⟨rfl,h1,h2⟩
   have HR27:=Lib.hid h1
   have HM1:=Lib.hid (HM.out.but h2 nMK)
   have HQ1:=Lib.hid (HQ.out.but h2 nQK)
   have HB27:=Lib.hid (HB26.out.trans h2)
   have Mf:=HM1.out.ok 14 (by simp)
   have Mc:=HM1.out.at 14 _ rfl
   have Ml:=HM1.out.lt
   clear h1 h2 HR26 HB26 HM HQ Q0 Ql
   go_upto_region 13 with fail
   rw[show y1.setCell ⟨M,14,none⟩ (.int .i64 x7)=y1.setCells M 14 [.int .i64 x7] from rfl]
   have HM:Hid (Own M [.int .u64 x0,.int .i64 x1,.int .u32 x2,.int .u8 (G 0),.int .u8 (G 1),.int .u8 (G 2),.int .u8 (G 3),.int .u8 (G 4),.int .u8 (G 5),.int .u8 (G 6),.int .u8 (G 7),.int .u32 x4,.int .u32 x5,.int .i64 x6,.int .i64 x7] (y1.setCells M 14 [.int .i64 x7])):=Lib.hid (show Own M (over _ 14 [.int .i64 x7]) _ from Own.part HM1.out (by simp))
   have hbm:But M y1 (y1.setCells M 14 [.int .i64 x7]):=But.store
   have HQ:=Lib.hid (HQ1.out.but hbm nQM)
   have HR28:=Lib.hid (HR27.out.far hbm nKM nDM)
   have HB28:=Lib.hid (HB27.out.gnews (o:=14) (vs:=[.int .i64 x7]) MW.out KL.out)
   clear hbm HR27 HB27 HM1 HQ1 Mf Ml Mc
   generalize y1.setCells M 14 [.int .i64 x7]=V4 at *
   refine wp_region_lit ?_
   refine wpList_load_mid rfl 27 _ rfl M 0 rfl ([.int .u64 x0,.int .i64 x1,.int .u32 x2,.int .u8 (G 0),.int .u8 (G 1),.int .u8 (G 2),.int .u8 (G 3),.int .u8 (G 4),.int .u8 (G 5),.int .u8 (G 6),.int .u8 (G 7),.int .u32 x4,.int .u32 x5,.int .i64 x6,.int .i64 x7]) _ HM.out.cell Tryz.underlying27 rfl (by kernel_rfl) ?_
   refine wpList_store_mid rfl 27 _ _ rfl M 0 ([.int .u64 x0,.int .i64 x1,.int .u32 x2,.int .u8 (G 0),.int .u8 (G 1),.int .u8 (G 2),.int .u8 (G 3),.int .u8 (G 4),.int .u8 (G 5),.int .u8 (G 6),.int .u8 (G 7),.int .u32 x4,.int .u32 x5,.int .i64 x6,.int .i64 x7]).toArray rfl rfl HM.out.free (by kernel_rfl) (by simp[Value.oneCell']) ?_
   change wpList _ _ _ [] _ (V4.setCells M 0 ([.int .u64 x0,.int .i64 x1,.int .u32 x2,.int .u8 (G 0),.int .u8 (G 1),.int .u8 (G 2),.int .u8 (G 3),.int .u8 (G 4),.int .u8 (G 5),.int .u8 (G 6),.int .u8 (G 7),.int .u32 x4,.int .u32 x5,.int .i64 x6,.int .i64 x7]))
   have HM5:Hid (Own M [.int .u64 x0,.int .i64 x1,.int .u32 x2,.int .u8 (G 0),.int .u8 (G 1),.int .u8 (G 2),.int .u8 (G 3),.int .u8 (G 4),.int .u8 (G 5),.int .u8 (G 6),.int .u8 (G 7),.int .u32 x4,.int .u32 x5,.int .i64 x6,.int .i64 x7] (V4.setCells M 0 [.int .u64 x0,.int .i64 x1,.int .u32 x2,.int .u8 (G 0),.int .u8 (G 1),.int .u8 (G 2),.int .u8 (G 3),.int .u8 (G 4),.int .u8 (G 5),.int .u8 (G 6),.int .u8 (G 7),.int .u32 x4,.int .u32 x5,.int .i64 x6,.int .i64 x7])):=Lib.hid (Own.store HM.out rfl)
   have hbm:But M V4 (V4.setCells M 0 [.int .u64 x0,.int .i64 x1,.int .u32 x2,.int .u8 (G 0),.int .u8 (G 1),.int .u8 (G 2),.int .u8 (G 3),.int .u8 (G 4),.int .u8 (G 5),.int .u8 (G 6),.int .u8 (G 7),.int .u32 x4,.int .u32 x5,.int .i64 x6,.int .i64 x7]):=But.store
   have HR5:=Lib.hid (HR28.out.far hbm nKM nDM)
   have HB5:=Lib.hid (HB28.out.gnews (o:=0) (vs:=[.int .u64 x0,.int .i64 x1,.int .u32 x2,.int .u8 (G 0),.int .u8 (G 1),.int .u8 (G 2),.int .u8 (G 3),.int .u8 (G 4),.int .u8 (G 5),.int .u8 (G 6),.int .u8 (G 7),.int .u32 x4,.int .u32 x5,.int .i64 x6,.int .i64 x7]) MW.out KL.out)
   clear hbm HR28 HB28 HM HQ
   generalize V4.setCells M 0 [.int .u64 x0,.int .i64 x1,.int .u32 x2,.int .u8 (G 0),.int .u8 (G 1),.int .u8 (G 2),.int .u8 (G 3),.int .u8 (G 4),.int .u8 (G 5),.int .u8 (G 6),.int .u8 (G 7),.int .u32 x4,.int .u32 x5,.int .i64 x6,.int .i64 x7]=V5 at *
   go_wp2_with (fail)
   have hL:=run_loadVar_mid (P:=Tryz.prog) _ M 0 27 [.int .u64 x0,.int .i64 x1,.int .u32 x2,.int .u8 (G 0),.int .u8 (G 1),.int .u8 (G 2),.int .u8 (G 3),.int .u8 (G 4),.int .u8 (G 5),.int .u8 (G 6),.int .u8 (G 7),.int .u32 x4,.int .u32 x5,.int .i64 x6,.int .i64 x7] _ HM5.out.cell Tryz.underlying27 rfl (by kernel_rfl)
   exact bodyPost_ret (v := .agg ([.int .u64 x0,.int .i64 x1,.int .u32 x2,.int .u8 (G 0),.int .u8 (G 1),.int .u8 (G 2),.int .u8 (G 3),.int .u8 (G 4),.int .u8 (G 5),.int .u8 (G 6),.int .u8 (G 7),.int .u32 x4,.int .u32 x5,.int .i64 x6,.int .i64 x7]:List Value).toArray) (res_cell Tryz.results70 rfl hL) rfl ⟨rfl,HR5.out,HB5.out⟩
end Go.Proofs.YtbilamnnneddmaaGreatDoor
namespace Go.Proofs.YtbilamnnneddmaaGreatDoor
set_option linter.unusedVariables false
set_option maxRecDepth 2000
set_option linter.unusedSimpArgs false
open Go.RowKit
theorem gres_two {P:Program} {fn:Func} {tmps:Array Value} {w:World} {r s T:Nat} {a:Addr} {v u:Value} (hf:fn.results=#[.cell r T,.tmp s]) (ha:tmps[r]?.getD undef = .pointer (some a)) (hl:(loadVar T a).run P w = .ok v w) (hs:tmps[s]?.getD undef=u):(results fn tmps).run P w = .ok (.tuple #[v,u]) w:=by
 subst hs
 have hx:(asAddr (Value.pointer (some a))).run P w = .ok a w:=by simp[asAddr]
 simp[results,hf,ha,hx,hl]
def gdecE (F:Nat→Int) (N:Nat):Int:=if N<35 then 4 else if 35<N then 5 else (checkF (gvalN F N 8 1) (mskN F N) (gvalN F N 21 4) (gvalN F N 25 4) (gvalN F N 29 4) (gvalN F N 33 2))
theorem gdec_end (N:Nat):endE N 35 (gerN N 35)=if N<35 then 4 else if 35<N then 5 else 0:=by
 unfold endE gerN
 by_cases h:35≤N
 ·rw[if_pos h,if_neg (by decide),if_neg (show ¬N<35 by omega)]
 ·rw[if_neg h,if_pos (by decide),if_pos (show N<35 by omega)]
set_option maxHeartbeats 8000000 in
theorem Decode_no (F:Nat→Int) (q:Option Addr) (N c:Nat) (hF:∀ j,j<N→inB (F j)) (hN:N≤1000) (w:World) (hg:Has 0 0 CapL w) (hq:Byt w q N F) (hE:gdecE F N≠0) :
  Calls Tryz.prog 39 #[.slice q N c] w fun e w'=>e = .returned (.tuple #[.agg #[.int .u64 0,.int .i64 0,.int .u32 0,.int .u8 0,.int .u8 0,.int .u8 0,.int .u8 0,.int .u8 0,.int .u8 0,.int .u8 0,.int .u8 0,.int .u32 0,.int .u32 0,.int .i64 0,.int .i64 0],.int .i64 (gdecE F N)])∧Below w.heap.size w w':=by
 by_cases h35:N=35
 ·subst h35
  have eE:gdecE F 35=checkF (gvalN F 35 8 1) (mskN F 35) (gvalN F 35 21 4) (gvalN F 35 25 4) (gvalN F 35 29 4) (gvalN F 35 33 2):=rfl
  have EE:(if 35<35 then (4:Int) else if 35<35 then 5 else 0)=0:=rfl
  rw[eE] at hE ⊢
  have p4:=pw_vals.2.2.2.1
  have b6:=gin_valN hF 29 4
  rw[p4] at b6
  have HG:=Lib.hid hg;have HQ:=Lib.hid hq
  have NW:=Lib.hid (fun w hq=>New_any q 35 c F (by omega) w hq)
  have MN:=Lib.hid (fun K D w h hd=>Man_any K D 35 F hF w h hd)
  clear hF hq hg eE
  generalize gvalN F 35 0 8=x0 at *
  generalize gvalN F 35 8 1=x1 at *
  generalize gvalN F 35 9 4=x2 at *
  generalize gvalN F 35 21 4=x4 at *
  generalize gvalN F 35 25 4=x5 at *
  generalize gvalN F 35 29 4=x6 at *
  generalize gvalN F 35 33 2=x7 at *
  generalize mskN F 35=G at *
  have CK:=Lib.hid (gCheck_any x0 x1 x2 G x4 x5 x6 x7 (by omega))
  generalize checkF x1 G x4 x5 x6 x7=z at *
  have hd:(z != 0)=true:=by simpa using hE
  clear b6 p4 hE
  go_enter Tryz.func39,Tryz.ntmps39
  go_upto_region 1 with fail
  obtain⟨W0,hW⟩:∃ W0,W0=(w.alloc (.cells #[.int .u64 0,.int .i64 0,.int .u32 0,.int .u8 0,.int .u8 0,.int .u8 0,.int .u8 0,.int .u8 0,.int .u8 0,.int .u8 0,.int .u8 0,.int .u32 0,.int .u32 0,.int .i64 0,.int .i64 0] 27)):=⟨_,rfl⟩
  have hB0:Below w.heap.size w W0:=hW ▸ (Below.al (Below.refl _ _))
  have HR:Hid (Own w.heap.size ([.int .u64 0,.int .i64 0,.int .u32 0,.int .u8 0,.int .u8 0,.int .u8 0,.int .u8 0,.int .u8 0,.int .u8 0,.int .u8 0,.int .u8 0,.int .u32 0,.int .u32 0,.int .i64 0,.int .i64 0]) W0):=Lib.hid (hW ▸ (show Own w.heap.size ([.int .u64 0,.int .i64 0,.int .u32 0,.int .u8 0,.int .u8 0,.int .u8 0,.int .u8 0,.int .u8 0,.int .u8 0,.int .u8 0,.int .u8 0,.int .u32 0,.int .u32 0,.int .i64 0,.int .i64 0]) (w.alloc (.cells #[.int .u64 0,.int .i64 0,.int .u32 0,.int .u8 0,.int .u8 0,.int .u8 0,.int .u8 0,.int .u8 0,.int .u8 0,.int .u8 0,.int .u8 0,.int .u32 0,.int .u32 0,.int .i64 0,.int .i64 0] 27)) from Own.newAt (by simp)))
  rw[← hW]
  clear hW
  obtain⟨R,eR⟩:∃ X,X=w.heap.size:=⟨_,rfl⟩
  rw[← eR] at HR ⊢
  have Rw:w.heap.size≤R:=by omega
  clear eR
  have HG0:=Lib.hid (HG.out.later hB0)
  have HQ0:=Lib.hid (HQ.out.later hB0)
  have Rl:=HR.out.lt
  clear HG HQ
  go_wp2_with (fail)
  go_at_call 69
  refine (NW.out _ HQ0.out).mono ?_
  rintro e w1 ⟨K,D,rfl,hKw,hDw,hDl,hrd,hb⟩
  have HG1:=Lib.hid (HG0.out.later hb)
  have HR1:=Lib.hid (HR.out.later hb)
  have hB1:=Below.go hB0 hb
  have nRK:R≠K:=by omega
  have n0K:0≠K:=by have:=HG0.out.lt;omega
  have KW:w.heap.size≤K:=by have:=hB0.size;omega
  have Kl:=hrd.lt
  have HRD:=Lib.hid hrd
  clear hb hB0 HG0 HQ0 HR NW hrd hKw hDw Rl
  go_upto_region 2 with fail
  obtain⟨w2,hW⟩:∃ w2,w2=(w1.alloc (.cells #[.pointer (some ⟨K,0,none⟩)] 120)):=⟨_,rfl⟩
  have hBx:Below w1.heap.size w1 w2:=hW ▸ (Below.al (Below.refl _ _))
  have HP:Hid (Own w1.heap.size ([.pointer (some ⟨K,0,none⟩)]) w2):=Lib.hid (hW ▸ (show Own w1.heap.size ([.pointer (some ⟨K,0,none⟩)]) (w1.alloc (.cells #[.pointer (some ⟨K,0,none⟩)] 120)) from Own.newAt (by simp)))
  rw[← hW]
  clear hW
  obtain⟨P,eP⟩:∃ X,X=w1.heap.size:=⟨_,rfl⟩
  rw[← eP] at HP ⊢
  have Pw:w1.heap.size≤P:=by omega
  clear eP
  have nPR:P≠R:=by have:=HR1.out.lt;omega
  have nRP:R≠P:=Ne.symm nPR
  have nPK:P≠K:=by omega
  have Pw2:w.heap.size≤P:=by have:=hB1.size;omega
  clear Pw
  have Pw:=Pw2
  clear Pw2
  have HR1k:=Lib.hid (HR1.out.later hBx)
  clear HR1
  have HR1:=HR1k
  clear HR1k
  have HG2:=Lib.hid (HG1.out.later hBx)
  have HRD2:=Lib.hid (HRD.out.later hBx)
  have hDl2:=Nat.lt_of_lt_of_le hDl hBx.size
  have hB1n:=Below.go hB1 hBx
  clear hB1 hBx
  have hB1:=hB1n
  clear hB1n
  clear HG1 HRD hDl Kl
  have oP:=HP.out
  have P0:=oP.at 0 _ rfl
  have Pl:=oP.lt
  clear oP
  go_wp2_with (fail)
  go_at_call 70
  refine (MN.out K D _ HRD2.out hDl2).mono ?_
  rintro e w3 ⟨rfl,h1,h2⟩
  have HRD3:=Lib.hid h1
  have HR3:=Lib.hid (HR1.out.but h2 nRK)
  have HP3:=Lib.hid (HP.out.but h2 nPK)
  have HG3:=Lib.hid (HG2.out.but h2 n0K)
  have hB3:=hB1.trans (h2.below.mono KW)
  clear h1 h2 HRD2 HR1 HP HG2 hB1 hDl2 P0 Pl MN
  go_upto_region 3 with fail
  obtain⟨w4,hW⟩:∃ w4,w4=(w3.alloc (.cells #[.int .u64 x0,.int .i64 x1,.int .u32 x2,.int .u8 (G 0),.int .u8 (G 1),.int .u8 (G 2),.int .u8 (G 3),.int .u8 (G 4),.int .u8 (G 5),.int .u8 (G 6),.int .u8 (G 7),.int .u32 x4,.int .u32 x5,.int .i64 x6,.int .i64 x7] 27)):=⟨_,rfl⟩
  have hBx:Below w3.heap.size w3 w4:=hW ▸ (Below.al (Below.refl _ _))
  have HX:Hid (Own w3.heap.size ([.int .u64 x0,.int .i64 x1,.int .u32 x2,.int .u8 (G 0),.int .u8 (G 1),.int .u8 (G 2),.int .u8 (G 3),.int .u8 (G 4),.int .u8 (G 5),.int .u8 (G 6),.int .u8 (G 7),.int .u32 x4,.int .u32 x5,.int .i64 x6,.int .i64 x7]) w4):=Lib.hid (hW ▸ (show Own w3.heap.size ([.int .u64 x0,.int .i64 x1,.int .u32 x2,.int .u8 (G 0),.int .u8 (G 1),.int .u8 (G 2),.int .u8 (G 3),.int .u8 (G 4),.int .u8 (G 5),.int .u8 (G 6),.int .u8 (G 7),.int .u32 x4,.int .u32 x5,.int .i64 x6,.int .i64 x7]) (w3.alloc (.cells #[.int .u64 x0,.int .i64 x1,.int .u32 x2,.int .u8 (G 0),.int .u8 (G 1),.int .u8 (G 2),.int .u8 (G 3),.int .u8 (G 4),.int .u8 (G 5),.int .u8 (G 6),.int .u8 (G 7),.int .u32 x4,.int .u32 x5,.int .i64 x6,.int .i64 x7] 27)) from Own.newAt (by simp)))
  rw[← hW]
  clear hW
  obtain⟨X,eX⟩:∃ X,X=w3.heap.size:=⟨_,rfl⟩
  rw[← eX] at HX ⊢
  have Xw:w3.heap.size≤X:=by omega
  clear eX
  have nXR:X≠R:=by have:=HR3.out.lt;omega
  have nRX:R≠X:=Ne.symm nXR
  have nXP:X≠P:=by have:=HP3.out.lt;omega
  have nPX:P≠X:=Ne.symm nXP
  have Xw2:w.heap.size≤X:=by have:=hB3.size;omega
  clear Xw
  have Xw:=Xw2
  clear Xw2
  have HR3k:=Lib.hid (HR3.out.later hBx)
  have HP3k:=Lib.hid (HP3.out.later hBx)
  clear HR3 HP3
  have HR3:=HR3k
  clear HR3k
  have HP3:=HP3k
  clear HP3k
  have HG4:=Lib.hid (HG3.out.later hBx)
  have HRD4:=Lib.hid (HRD3.out.later hBx)
  have hB3n:=Below.go hB3 hBx
  clear hB3 hBx
  have hB3:=hB3n
  clear hB3n
  have EN:=Lib.hid (End_any HRD4.out)
  rw[gdec_end,EE] at EN
  have HB4:=Lib.hid hB3
  clear HG3 HRD3 HRD4 hB3
  have oP:=HP3.out
  have P0:=oP.at 0 _ rfl
  have Pl:=oP.lt
  clear oP
  go_wp2_with (fail)
  go_at_call 71
  refine EN.out.mono ?_
  rintro e y5 ⟨rfl,hw⟩
  obtain rfl:w4=y5:=hw.symm
  clear hw EN P0 Pl HP3
  have oX:=HX.out
  have X0:=oX.at 0 _ rfl
  have X1:=oX.at 1 _ rfl
  have X2:=oX.at 2 _ rfl
  have X3:=oX.at 3 _ rfl
  have X4:=oX.at 4 _ rfl
  have X5:=oX.at 5 _ rfl
  have X6:=oX.at 6 _ rfl
  have X7:=oX.at 7 _ rfl
  have X8:=oX.at 8 _ rfl
  have X9:=oX.at 9 _ rfl
  have X10:=oX.at 10 _ rfl
  have X11:=oX.at 11 _ rfl
  have X12:=oX.at 12 _ rfl
  have X13:=oX.at 13 _ rfl
  have X14:=oX.at 14 _ rfl
  have Xl:=oX.lt
  clear oX
  go_wp2_with (fail)
  go_at_call 58
  refine (CK.out _ HG4.out).mono ?_
  rintro e w5 ⟨rfl,hb⟩
  have HR5:=Lib.hid (HR3.out.later hb)
  have HX5:=Lib.hid (HX.out.later hb)
  have HB5:=Lib.hid (Below.go HB4.out hb)
  clear hb CK HG4 HR3 HX HB4 X0 X1 X2 X3 X4 X5 X6 X7 X8 X9 X10 X11 X12 X13 X14 Xl
  have oR:=HR5.out
  have R0:=oR.at 0 _ rfl
  have Rf0:=oR.ok 0 (by simp)
  have R1:=oR.at 1 _ rfl
  have Rf1:=oR.ok 1 (by simp)
  have R2:=oR.at 2 _ rfl
  have Rf2:=oR.ok 2 (by simp)
  have R3:=oR.at 3 _ rfl
  have Rf3:=oR.ok 3 (by simp)
  have R4:=oR.at 4 _ rfl
  have Rf4:=oR.ok 4 (by simp)
  have R5:=oR.at 5 _ rfl
  have Rf5:=oR.ok 5 (by simp)
  have R6:=oR.at 6 _ rfl
  have Rf6:=oR.ok 6 (by simp)
  have R7:=oR.at 7 _ rfl
  have Rf7:=oR.ok 7 (by simp)
  have R8:=oR.at 8 _ rfl
  have Rf8:=oR.ok 8 (by simp)
  have R9:=oR.at 9 _ rfl
  have Rf9:=oR.ok 9 (by simp)
  have R10:=oR.at 10 _ rfl
  have Rf10:=oR.ok 10 (by simp)
  have R11:=oR.at 11 _ rfl
  have Rf11:=oR.ok 11 (by simp)
  have R12:=oR.at 12 _ rfl
  have Rf12:=oR.ok 12 (by simp)
  have R13:=oR.at 13 _ rfl
  have Rf13:=oR.ok 13 (by simp)
  have R14:=oR.at 14 _ rfl
  have Rf14:=oR.ok 14 (by simp)
  have Rl:=oR.lt
  clear oR
  go_wp2_with (fail)
  change bodyPost _ _ _ _ _ (w5.setCells R 0 [.int .u64 0,.int .i64 0,.int .u32 0,.int .u8 0,.int .u8 0,.int .u8 0,.int .u8 0,.int .u8 0,.int .u8 0,.int .u8 0,.int .u8 0,.int .u32 0,.int .u32 0,.int .i64 0,.int .i64 0])
  have HR9:Own R [.int .u64 0,.int .i64 0,.int .u32 0,.int .u8 0,.int .u8 0,.int .u8 0,.int .u8 0,.int .u8 0,.int .u8 0,.int .u8 0,.int .u8 0,.int .u32 0,.int .u32 0,.int .i64 0,.int .i64 0] (w5.setCells R 0 [.int .u64 0,.int .i64 0,.int .u32 0,.int .u8 0,.int .u8 0,.int .u8 0,.int .u8 0,.int .u8 0,.int .u8 0,.int .u8 0,.int .u8 0,.int .u32 0,.int .u32 0,.int .i64 0,.int .i64 0]):=Own.store HR5.out rfl
  have HB9:Below w.heap.size w (w5.setCells R 0 [.int .u64 0,.int .i64 0,.int .u32 0,.int .u8 0,.int .u8 0,.int .u8 0,.int .u8 0,.int .u8 0,.int .u8 0,.int .u8 0,.int .u8 0,.int .u32 0,.int .u32 0,.int .i64 0,.int .i64 0]):=Below.setCells HB5.out Rw _ _
  have hL:=run_loadVar_mid (P:=Tryz.prog) _ R 0 27 [.int .u64 0,.int .i64 0,.int .u32 0,.int .u8 0,.int .u8 0,.int .u8 0,.int .u8 0,.int .u8 0,.int .u8 0,.int .u8 0,.int .u8 0,.int .u32 0,.int .u32 0,.int .i64 0,.int .i64 0] _ HR9.cell Tryz.underlying27 rfl (by kernel_rfl)
  exact bodyPost_ret (v := .tuple #[.agg ([.int .u64 0,.int .i64 0,.int .u32 0,.int .u8 0,.int .u8 0,.int .u8 0,.int .u8 0,.int .u8 0,.int .u8 0,.int .u8 0,.int .u8 0,.int .u32 0,.int .u32 0,.int .i64 0,.int .i64 0]:List Value).toArray,.int .i64 z]) (gres_two Tryz.results39 rfl hL rfl) rfl ⟨rfl,HB9⟩
 ·have eE:gdecE F N=if N<35 then 4 else 5:=by
   unfold gdecE
   by_cases h:N<35
   ·rw[if_pos h,if_pos h]
   ·rw[if_neg h,if_neg h,if_pos (by omega)]
  have EE:(if N<35 then (4:Int) else if 35<N then 5 else 0)=if N<35 then 4 else 5:=by
   by_cases h:N<35
   ·rw[if_pos h,if_pos h]
   ·rw[if_neg h,if_neg h,if_pos (by omega)]
  rw[eE] at hE ⊢
  have HG:=Lib.hid hg;have HQ:=Lib.hid hq
  have NW:=Lib.hid (fun w hq=>New_any q N c F (by omega) w hq)
  have MN:=Lib.hid (fun K D w h hd=>Man_any K D N F hF w h hd)
  clear hF hq hg eE
  generalize gvalN F N 0 8=x0 at *
  generalize gvalN F N 8 1=x1 at *
  generalize gvalN F N 9 4=x2 at *
  generalize gvalN F N 21 4=x4 at *
  generalize gvalN F N 25 4=x5 at *
  generalize gvalN F N 29 4=x6 at *
  generalize gvalN F N 33 2=x7 at *
  generalize mskN F N=G at *
  have hd:((if N<35 then (4:Int) else 5) != 0)=true:=by simpa using hE
  generalize (if N<35 then (4:Int) else 5)=z at *
  clear hE h35
  go_enter Tryz.func39,Tryz.ntmps39
  go_upto_region 1 with fail
  obtain⟨W0,hW⟩:∃ W0,W0=(w.alloc (.cells #[.int .u64 0,.int .i64 0,.int .u32 0,.int .u8 0,.int .u8 0,.int .u8 0,.int .u8 0,.int .u8 0,.int .u8 0,.int .u8 0,.int .u8 0,.int .u32 0,.int .u32 0,.int .i64 0,.int .i64 0] 27)):=⟨_,rfl⟩
  have hB0:Below w.heap.size w W0:=hW ▸ (Below.al (Below.refl _ _))
  have HR:Hid (Own w.heap.size ([.int .u64 0,.int .i64 0,.int .u32 0,.int .u8 0,.int .u8 0,.int .u8 0,.int .u8 0,.int .u8 0,.int .u8 0,.int .u8 0,.int .u8 0,.int .u32 0,.int .u32 0,.int .i64 0,.int .i64 0]) W0):=Lib.hid (hW ▸ (show Own w.heap.size ([.int .u64 0,.int .i64 0,.int .u32 0,.int .u8 0,.int .u8 0,.int .u8 0,.int .u8 0,.int .u8 0,.int .u8 0,.int .u8 0,.int .u8 0,.int .u32 0,.int .u32 0,.int .i64 0,.int .i64 0]) (w.alloc (.cells #[.int .u64 0,.int .i64 0,.int .u32 0,.int .u8 0,.int .u8 0,.int .u8 0,.int .u8 0,.int .u8 0,.int .u8 0,.int .u8 0,.int .u8 0,.int .u32 0,.int .u32 0,.int .i64 0,.int .i64 0] 27)) from Own.newAt (by simp)))
  rw[← hW]
  clear hW
  obtain⟨R,eR⟩:∃ X,X=w.heap.size:=⟨_,rfl⟩
  rw[← eR] at HR ⊢
  have Rw:w.heap.size≤R:=by omega
  clear eR
  have HG0:=Lib.hid (HG.out.later hB0)
  have HQ0:=Lib.hid (HQ.out.later hB0)
  have Rl:=HR.out.lt
  clear HG HQ
  go_wp2_with (fail)
  go_at_call 69
  refine (NW.out _ HQ0.out).mono ?_
  rintro e w1 ⟨K,D,rfl,hKw,hDw,hDl,hrd,hb⟩
  have HG1:=Lib.hid (HG0.out.later hb)
  have HR1:=Lib.hid (HR.out.later hb)
  have hB1:=Below.go hB0 hb
  have nRK:R≠K:=by omega
  have n0K:0≠K:=by have:=HG0.out.lt;omega
  have KW:w.heap.size≤K:=by have:=hB0.size;omega
  have Kl:=hrd.lt
  have HRD:=Lib.hid hrd
  clear hb hB0 HG0 HQ0 HR NW hrd hKw hDw Rl
  go_upto_region 2 with fail
  obtain⟨w2,hW⟩:∃ w2,w2=(w1.alloc (.cells #[.pointer (some ⟨K,0,none⟩)] 120)):=⟨_,rfl⟩
  have hBx:Below w1.heap.size w1 w2:=hW ▸ (Below.al (Below.refl _ _))
  have HP:Hid (Own w1.heap.size ([.pointer (some ⟨K,0,none⟩)]) w2):=Lib.hid (hW ▸ (show Own w1.heap.size ([.pointer (some ⟨K,0,none⟩)]) (w1.alloc (.cells #[.pointer (some ⟨K,0,none⟩)] 120)) from Own.newAt (by simp)))
  rw[← hW]
  clear hW
  obtain⟨P,eP⟩:∃ X,X=w1.heap.size:=⟨_,rfl⟩
  rw[← eP] at HP ⊢
  have Pw:w1.heap.size≤P:=by omega
  clear eP
  have nPR:P≠R:=by have:=HR1.out.lt;omega
  have nRP:R≠P:=Ne.symm nPR
  have nPK:P≠K:=by omega
  have Pw2:w.heap.size≤P:=by have:=hB1.size;omega
  clear Pw
  have Pw:=Pw2
  clear Pw2
  have HR1k:=Lib.hid (HR1.out.later hBx)
  clear HR1
  have HR1:=HR1k
  clear HR1k
  have HG2:=Lib.hid (HG1.out.later hBx)
  have HRD2:=Lib.hid (HRD.out.later hBx)
  have hDl2:=Nat.lt_of_lt_of_le hDl hBx.size
  have hB1n:=Below.go hB1 hBx
  clear hB1 hBx
  have hB1:=hB1n
  clear hB1n
  clear HG1 HRD hDl Kl
  have oP:=HP.out
  have P0:=oP.at 0 _ rfl
  have Pl:=oP.lt
  clear oP
  go_wp2_with (fail)
  go_at_call 70
  refine (MN.out K D _ HRD2.out hDl2).mono ?_
  rintro e w3 ⟨rfl,h1,h2⟩
  have HRD3:=Lib.hid h1
  have HR3:=Lib.hid (HR1.out.but h2 nRK)
  have HP3:=Lib.hid (HP.out.but h2 nPK)
  have HG3:=Lib.hid (HG2.out.but h2 n0K)
  have hB3:=hB1.trans (h2.below.mono KW)
  clear h1 h2 HRD2 HR1 HP HG2 hB1 hDl2 P0 Pl MN
  go_upto_region 3 with fail
  obtain⟨w4,hW⟩:∃ w4,w4=(w3.alloc (.cells #[.int .u64 x0,.int .i64 x1,.int .u32 x2,.int .u8 (G 0),.int .u8 (G 1),.int .u8 (G 2),.int .u8 (G 3),.int .u8 (G 4),.int .u8 (G 5),.int .u8 (G 6),.int .u8 (G 7),.int .u32 x4,.int .u32 x5,.int .i64 x6,.int .i64 x7] 27)):=⟨_,rfl⟩
  have hBx:Below w3.heap.size w3 w4:=hW ▸ (Below.al (Below.refl _ _))
  have HX:Hid (Own w3.heap.size ([.int .u64 x0,.int .i64 x1,.int .u32 x2,.int .u8 (G 0),.int .u8 (G 1),.int .u8 (G 2),.int .u8 (G 3),.int .u8 (G 4),.int .u8 (G 5),.int .u8 (G 6),.int .u8 (G 7),.int .u32 x4,.int .u32 x5,.int .i64 x6,.int .i64 x7]) w4):=Lib.hid (hW ▸ (show Own w3.heap.size ([.int .u64 x0,.int .i64 x1,.int .u32 x2,.int .u8 (G 0),.int .u8 (G 1),.int .u8 (G 2),.int .u8 (G 3),.int .u8 (G 4),.int .u8 (G 5),.int .u8 (G 6),.int .u8 (G 7),.int .u32 x4,.int .u32 x5,.int .i64 x6,.int .i64 x7]) (w3.alloc (.cells #[.int .u64 x0,.int .i64 x1,.int .u32 x2,.int .u8 (G 0),.int .u8 (G 1),.int .u8 (G 2),.int .u8 (G 3),.int .u8 (G 4),.int .u8 (G 5),.int .u8 (G 6),.int .u8 (G 7),.int .u32 x4,.int .u32 x5,.int .i64 x6,.int .i64 x7] 27)) from Own.newAt (by simp)))
  rw[← hW]
  clear hW
  obtain⟨X,eX⟩:∃ X,X=w3.heap.size:=⟨_,rfl⟩
  rw[← eX] at HX ⊢
  have Xw:w3.heap.size≤X:=by omega
  clear eX
  have nXR:X≠R:=by have:=HR3.out.lt;omega
  have nRX:R≠X:=Ne.symm nXR
  have nXP:X≠P:=by have:=HP3.out.lt;omega
  have nPX:P≠X:=Ne.symm nXP
  have Xw2:w.heap.size≤X:=by have:=hB3.size;omega
  clear Xw
  have Xw:=Xw2
  clear Xw2
  have HR3k:=Lib.hid (HR3.out.later hBx)
  have HP3k:=Lib.hid (HP3.out.later hBx)
  clear HR3 HP3
  have HR3:=HR3k
  clear HR3k
  have HP3:=HP3k
  clear HP3k
  have HG4:=Lib.hid (HG3.out.later hBx)
  have HRD4:=Lib.hid (HRD3.out.later hBx)
  have hB3n:=Below.go hB3 hBx
  clear hB3 hBx
  have hB3:=hB3n
  clear hB3n
  have EN:=Lib.hid (End_any HRD4.out)
  rw[gdec_end,EE] at EN
  have HB4:=Lib.hid hB3
  clear HG3 HRD3 HRD4 hB3
  have oP:=HP3.out
  have P0:=oP.at 0 _ rfl
  have Pl:=oP.lt
  clear oP
  go_wp2_with (fail)
  go_at_call 71
  refine EN.out.mono ?_
  rintro e y5 ⟨rfl,hw⟩
  obtain rfl:w4=y5:=hw.symm
  clear hw EN P0 Pl HP3
  have oR:=HR3.out
  have R0:=oR.at 0 _ rfl
  have Rf0:=oR.ok 0 (by simp)
  have R1:=oR.at 1 _ rfl
  have Rf1:=oR.ok 1 (by simp)
  have R2:=oR.at 2 _ rfl
  have Rf2:=oR.ok 2 (by simp)
  have R3:=oR.at 3 _ rfl
  have Rf3:=oR.ok 3 (by simp)
  have R4:=oR.at 4 _ rfl
  have Rf4:=oR.ok 4 (by simp)
  have R5:=oR.at 5 _ rfl
  have Rf5:=oR.ok 5 (by simp)
  have R6:=oR.at 6 _ rfl
  have Rf6:=oR.ok 6 (by simp)
  have R7:=oR.at 7 _ rfl
  have Rf7:=oR.ok 7 (by simp)
  have R8:=oR.at 8 _ rfl
  have Rf8:=oR.ok 8 (by simp)
  have R9:=oR.at 9 _ rfl
  have Rf9:=oR.ok 9 (by simp)
  have R10:=oR.at 10 _ rfl
  have Rf10:=oR.ok 10 (by simp)
  have R11:=oR.at 11 _ rfl
  have Rf11:=oR.ok 11 (by simp)
  have R12:=oR.at 12 _ rfl
  have Rf12:=oR.ok 12 (by simp)
  have R13:=oR.at 13 _ rfl
  have Rf13:=oR.ok 13 (by simp)
  have R14:=oR.at 14 _ rfl
  have Rf14:=oR.ok 14 (by simp)
  have Rl:=oR.lt
  clear oR
  go_wp2_with (fail)
  change bodyPost _ _ _ _ _ (w4.setCells R 0 [.int .u64 0,.int .i64 0,.int .u32 0,.int .u8 0,.int .u8 0,.int .u8 0,.int .u8 0,.int .u8 0,.int .u8 0,.int .u8 0,.int .u8 0,.int .u32 0,.int .u32 0,.int .i64 0,.int .i64 0])
  have HR9:Own R [.int .u64 0,.int .i64 0,.int .u32 0,.int .u8 0,.int .u8 0,.int .u8 0,.int .u8 0,.int .u8 0,.int .u8 0,.int .u8 0,.int .u8 0,.int .u32 0,.int .u32 0,.int .i64 0,.int .i64 0] (w4.setCells R 0 [.int .u64 0,.int .i64 0,.int .u32 0,.int .u8 0,.int .u8 0,.int .u8 0,.int .u8 0,.int .u8 0,.int .u8 0,.int .u8 0,.int .u8 0,.int .u32 0,.int .u32 0,.int .i64 0,.int .i64 0]):=Own.store HR3.out rfl
  have HB9:Below w.heap.size w (w4.setCells R 0 [.int .u64 0,.int .i64 0,.int .u32 0,.int .u8 0,.int .u8 0,.int .u8 0,.int .u8 0,.int .u8 0,.int .u8 0,.int .u8 0,.int .u8 0,.int .u32 0,.int .u32 0,.int .i64 0,.int .i64 0]):=Below.setCells HB4.out Rw _ _
  have hL:=run_loadVar_mid (P:=Tryz.prog) _ R 0 27 [.int .u64 0,.int .i64 0,.int .u32 0,.int .u8 0,.int .u8 0,.int .u8 0,.int .u8 0,.int .u8 0,.int .u8 0,.int .u8 0,.int .u8 0,.int .u32 0,.int .u32 0,.int .i64 0,.int .i64 0] _ HR9.cell Tryz.underlying27 rfl (by kernel_rfl)
  exact bodyPost_ret (v := .tuple #[.agg ([.int .u64 0,.int .i64 0,.int .u32 0,.int .u8 0,.int .u8 0,.int .u8 0,.int .u8 0,.int .u8 0,.int .u8 0,.int .u8 0,.int .u8 0,.int .u32 0,.int .u32 0,.int .i64 0,.int .i64 0]:List Value).toArray,.int .i64 z]) (gres_two Tryz.results39 rfl hL rfl) rfl ⟨rfl,HB9⟩
set_option maxHeartbeats 8000000 in
theorem Decode_yes (F:Nat→Int) (q:Option Addr) (N c:Nat) (hN:N=35) (hF:∀ j,j<N→inB (F j)) (w:World) (hg:Has 0 0 CapL w) (hq:Byt w q N F) (hE:gdecE F N=0) :
  Calls Tryz.prog 39 #[.slice q N c] w fun e w'=>e = .returned (.tuple #[(.agg #[.int .u64 (gvalN F N 0 8),.int .i64 (gvalN F N 8 1),.int .u32 (gvalN F N 9 4),.int .u8 (mskN F N 0),.int .u8 (mskN F N 1),.int .u8 (mskN F N 2),.int .u8 (mskN F N 3),.int .u8 (mskN F N 4),.int .u8 (mskN F N 5),.int .u8 (mskN F N 6),.int .u8 (mskN F N 7),.int .u32 (gvalN F N 21 4),.int .u32 (gvalN F N 25 4),.int .i64 (gvalN F N 29 4),.int .i64 (gvalN F N 33 2)]),.int .i64 0])∧Below w.heap.size w w':=by
 subst hN
 have eE:gdecE F 35=checkF (gvalN F 35 8 1) (mskN F 35) (gvalN F 35 21 4) (gvalN F 35 25 4) (gvalN F 35 29 4) (gvalN F 35 33 2):=rfl
 have EE:(if 35<35 then (4:Int) else if 35<35 then 5 else 0)=0:=rfl
 rw[eE] at hE
 have p4:=pw_vals.2.2.2.1
 have b6:=gin_valN hF 29 4
 rw[p4] at b6
 have HG:=Lib.hid hg;have HQ:=Lib.hid hq
 have NW:=Lib.hid (fun w hq=>New_any q 35 c F (by omega) w hq)
 have MN:=Lib.hid (fun K D w h hd=>Man_any K D 35 F hF w h hd)
 clear hF hq hg eE
 generalize gvalN F 35 0 8=x0 at *
 generalize gvalN F 35 8 1=x1 at *
 generalize gvalN F 35 9 4=x2 at *
 generalize gvalN F 35 21 4=x4 at *
 generalize gvalN F 35 25 4=x5 at *
 generalize gvalN F 35 29 4=x6 at *
 generalize gvalN F 35 33 2=x7 at *
 generalize mskN F 35=G at *
 have CK:=Lib.hid (gCheck_any x0 x1 x2 G x4 x5 x6 x7 (by omega))
 rw[hE] at CK
 clear b6 p4 hE
 go_enter Tryz.func39,Tryz.ntmps39
 go_upto_region 1 with fail
 obtain⟨W0,hW⟩:∃ W0,W0=(w.alloc (.cells #[.int .u64 0,.int .i64 0,.int .u32 0,.int .u8 0,.int .u8 0,.int .u8 0,.int .u8 0,.int .u8 0,.int .u8 0,.int .u8 0,.int .u8 0,.int .u32 0,.int .u32 0,.int .i64 0,.int .i64 0] 27)):=⟨_,rfl⟩
 have hB0:Below w.heap.size w W0:=hW ▸ (Below.al (Below.refl _ _))
 have HR:Hid (Own w.heap.size ([.int .u64 0,.int .i64 0,.int .u32 0,.int .u8 0,.int .u8 0,.int .u8 0,.int .u8 0,.int .u8 0,.int .u8 0,.int .u8 0,.int .u8 0,.int .u32 0,.int .u32 0,.int .i64 0,.int .i64 0]) W0):=Lib.hid (hW ▸ (show Own w.heap.size ([.int .u64 0,.int .i64 0,.int .u32 0,.int .u8 0,.int .u8 0,.int .u8 0,.int .u8 0,.int .u8 0,.int .u8 0,.int .u8 0,.int .u8 0,.int .u32 0,.int .u32 0,.int .i64 0,.int .i64 0]) (w.alloc (.cells #[.int .u64 0,.int .i64 0,.int .u32 0,.int .u8 0,.int .u8 0,.int .u8 0,.int .u8 0,.int .u8 0,.int .u8 0,.int .u8 0,.int .u8 0,.int .u32 0,.int .u32 0,.int .i64 0,.int .i64 0] 27)) from Own.newAt (by simp)))
 rw[← hW]
 clear hW
 obtain⟨R,eR⟩:∃ X,X=w.heap.size:=⟨_,rfl⟩
 rw[← eR] at HR ⊢
 have Rw:w.heap.size≤R:=by omega
 clear eR
 have HG0:=Lib.hid (HG.out.later hB0)
 have HQ0:=Lib.hid (HQ.out.later hB0)
 have Rl:=HR.out.lt
 clear HG HQ
 go_wp2_with (fail)
 go_at_call 69
 refine (NW.out _ HQ0.out).mono ?_
 rintro e w1 ⟨K,D,rfl,hKw,hDw,hDl,hrd,hb⟩
 have HG1:=Lib.hid (HG0.out.later hb)
 have HR1:=Lib.hid (HR.out.later hb)
 have hB1:=Below.go hB0 hb
 have nRK:R≠K:=by omega
 have n0K:0≠K:=by have:=HG0.out.lt;omega
 have KW:w.heap.size≤K:=by have:=hB0.size;omega
 have Kl:=hrd.lt
 have HRD:=Lib.hid hrd
 clear hb hB0 HG0 HQ0 HR NW hrd hKw hDw Rl
 go_upto_region 2 with fail
 obtain⟨w2,hW⟩:∃ w2,w2=(w1.alloc (.cells #[.pointer (some ⟨K,0,none⟩)] 120)):=⟨_,rfl⟩
 have hBx:Below w1.heap.size w1 w2:=hW ▸ (Below.al (Below.refl _ _))
 have HP:Hid (Own w1.heap.size ([.pointer (some ⟨K,0,none⟩)]) w2):=Lib.hid (hW ▸ (show Own w1.heap.size ([.pointer (some ⟨K,0,none⟩)]) (w1.alloc (.cells #[.pointer (some ⟨K,0,none⟩)] 120)) from Own.newAt (by simp)))
 rw[← hW]
 clear hW
 obtain⟨P,eP⟩:∃ X,X=w1.heap.size:=⟨_,rfl⟩
 rw[← eP] at HP ⊢
 have Pw:w1.heap.size≤P:=by omega
 clear eP
 have nPR:P≠R:=by have:=HR1.out.lt;omega
 have nRP:R≠P:=Ne.symm nPR
 have nPK:P≠K:=by omega
 have Pw2:w.heap.size≤P:=by have:=hB1.size;omega
 clear Pw
 have Pw:=Pw2
 clear Pw2
 have HR1k:=Lib.hid (HR1.out.later hBx)
 clear HR1
 have HR1:=HR1k
 clear HR1k
 have HG2:=Lib.hid (HG1.out.later hBx)
 have HRD2:=Lib.hid (HRD.out.later hBx)
 have hDl2:=Nat.lt_of_lt_of_le hDl hBx.size
 have hB1n:=Below.go hB1 hBx
 clear hB1 hBx
 have hB1:=hB1n
 clear hB1n
 clear HG1 HRD hDl Kl
 have oP:=HP.out
 have P0:=oP.at 0 _ rfl
 have Pl:=oP.lt
 clear oP
 go_wp2_with (fail)
 go_at_call 70
 refine (MN.out K D _ HRD2.out hDl2).mono ?_
 rintro e w3 ⟨rfl,h1,h2⟩
 have HRD3:=Lib.hid h1
 have HR3:=Lib.hid (HR1.out.but h2 nRK)
 have HP3:=Lib.hid (HP.out.but h2 nPK)
 have HG3:=Lib.hid (HG2.out.but h2 n0K)
 have hB3:=hB1.trans (h2.below.mono KW)
 clear h1 h2 HRD2 HR1 HP HG2 hB1 hDl2 P0 Pl MN
 go_upto_region 3 with fail
 obtain⟨w4,hW⟩:∃ w4,w4=(w3.alloc (.cells #[.int .u64 x0,.int .i64 x1,.int .u32 x2,.int .u8 (G 0),.int .u8 (G 1),.int .u8 (G 2),.int .u8 (G 3),.int .u8 (G 4),.int .u8 (G 5),.int .u8 (G 6),.int .u8 (G 7),.int .u32 x4,.int .u32 x5,.int .i64 x6,.int .i64 x7] 27)):=⟨_,rfl⟩
 have hBx:Below w3.heap.size w3 w4:=hW ▸ (Below.al (Below.refl _ _))
 have HX:Hid (Own w3.heap.size ([.int .u64 x0,.int .i64 x1,.int .u32 x2,.int .u8 (G 0),.int .u8 (G 1),.int .u8 (G 2),.int .u8 (G 3),.int .u8 (G 4),.int .u8 (G 5),.int .u8 (G 6),.int .u8 (G 7),.int .u32 x4,.int .u32 x5,.int .i64 x6,.int .i64 x7]) w4):=Lib.hid (hW ▸ (show Own w3.heap.size ([.int .u64 x0,.int .i64 x1,.int .u32 x2,.int .u8 (G 0),.int .u8 (G 1),.int .u8 (G 2),.int .u8 (G 3),.int .u8 (G 4),.int .u8 (G 5),.int .u8 (G 6),.int .u8 (G 7),.int .u32 x4,.int .u32 x5,.int .i64 x6,.int .i64 x7]) (w3.alloc (.cells #[.int .u64 x0,.int .i64 x1,.int .u32 x2,.int .u8 (G 0),.int .u8 (G 1),.int .u8 (G 2),.int .u8 (G 3),.int .u8 (G 4),.int .u8 (G 5),.int .u8 (G 6),.int .u8 (G 7),.int .u32 x4,.int .u32 x5,.int .i64 x6,.int .i64 x7] 27)) from Own.newAt (by simp)))
 rw[← hW]
 clear hW
 obtain⟨X,eX⟩:∃ X,X=w3.heap.size:=⟨_,rfl⟩
 rw[← eX] at HX ⊢
 have Xw:w3.heap.size≤X:=by omega
 clear eX
 have nXR:X≠R:=by have:=HR3.out.lt;omega
 have nRX:R≠X:=Ne.symm nXR
 have nXP:X≠P:=by have:=HP3.out.lt;omega
 have nPX:P≠X:=Ne.symm nXP
 have Xw2:w.heap.size≤X:=by have:=hB3.size;omega
 clear Xw
 have Xw:=Xw2
 clear Xw2
 have HR3k:=Lib.hid (HR3.out.later hBx)
 have HP3k:=Lib.hid (HP3.out.later hBx)
 clear HR3 HP3
 have HR3:=HR3k
 clear HR3k
 have HP3:=HP3k
 clear HP3k
 have HG4:=Lib.hid (HG3.out.later hBx)
 have HRD4:=Lib.hid (HRD3.out.later hBx)
 have hB3n:=Below.go hB3 hBx
 clear hB3 hBx
 have hB3:=hB3n
 clear hB3n
 have EN:=Lib.hid (End_any HRD4.out)
 rw[gdec_end,EE] at EN
 have HB4:=Lib.hid hB3
 clear HG3 HRD3 HRD4 hB3
 have oP:=HP3.out
 have P0:=oP.at 0 _ rfl
 have Pl:=oP.lt
 clear oP
 go_wp2_with (fail)
 go_at_call 71
 refine EN.out.mono ?_
 rintro e y5 ⟨rfl,hw⟩
 obtain rfl:w4=y5:=hw.symm
 clear hw EN P0 Pl HP3
 have oX:=HX.out
 have X0:=oX.at 0 _ rfl
 have X1:=oX.at 1 _ rfl
 have X2:=oX.at 2 _ rfl
 have X3:=oX.at 3 _ rfl
 have X4:=oX.at 4 _ rfl
 have X5:=oX.at 5 _ rfl
 have X6:=oX.at 6 _ rfl
 have X7:=oX.at 7 _ rfl
 have X8:=oX.at 8 _ rfl
 have X9:=oX.at 9 _ rfl
 have X10:=oX.at 10 _ rfl
 have X11:=oX.at 11 _ rfl
 have X12:=oX.at 12 _ rfl
 have X13:=oX.at 13 _ rfl
 have X14:=oX.at 14 _ rfl
 have Xl:=oX.lt
 clear oX
 go_wp2_with (fail)
 go_at_call 58
 refine (CK.out _ HG4.out).mono ?_
 rintro e w5 ⟨rfl,hb⟩
 have HR5:=Lib.hid (HR3.out.later hb)
 have HX5:=Lib.hid (HX.out.later hb)
 have HB5:=Lib.hid (Below.go HB4.out hb)
 clear hb CK HG4 HR3 HX HB4 X0 X1 X2 X3 X4 X5 X6 X7 X8 X9 X10 X11 X12 X13 X14 Xl
 have oX:=HX5.out
 have X0:=oX.at 0 _ rfl
 have X1:=oX.at 1 _ rfl
 have X2:=oX.at 2 _ rfl
 have X3:=oX.at 3 _ rfl
 have X4:=oX.at 4 _ rfl
 have X5:=oX.at 5 _ rfl
 have X6:=oX.at 6 _ rfl
 have X7:=oX.at 7 _ rfl
 have X8:=oX.at 8 _ rfl
 have X9:=oX.at 9 _ rfl
 have X10:=oX.at 10 _ rfl
 have X11:=oX.at 11 _ rfl
 have X12:=oX.at 12 _ rfl
 have X13:=oX.at 13 _ rfl
 have X14:=oX.at 14 _ rfl
 have Xl:=oX.lt
 clear oX
 have oR:=HR5.out
 have R0:=oR.at 0 _ rfl
 have Rf0:=oR.ok 0 (by simp)
 have R1:=oR.at 1 _ rfl
 have Rf1:=oR.ok 1 (by simp)
 have R2:=oR.at 2 _ rfl
 have Rf2:=oR.ok 2 (by simp)
 have R3:=oR.at 3 _ rfl
 have Rf3:=oR.ok 3 (by simp)
 have R4:=oR.at 4 _ rfl
 have Rf4:=oR.ok 4 (by simp)
 have R5:=oR.at 5 _ rfl
 have Rf5:=oR.ok 5 (by simp)
 have R6:=oR.at 6 _ rfl
 have Rf6:=oR.ok 6 (by simp)
 have R7:=oR.at 7 _ rfl
 have Rf7:=oR.ok 7 (by simp)
 have R8:=oR.at 8 _ rfl
 have Rf8:=oR.ok 8 (by simp)
 have R9:=oR.at 9 _ rfl
 have Rf9:=oR.ok 9 (by simp)
 have R10:=oR.at 10 _ rfl
 have Rf10:=oR.ok 10 (by simp)
 have R11:=oR.at 11 _ rfl
 have Rf11:=oR.ok 11 (by simp)
 have R12:=oR.at 12 _ rfl
 have Rf12:=oR.ok 12 (by simp)
 have R13:=oR.at 13 _ rfl
 have Rf13:=oR.ok 13 (by simp)
 have R14:=oR.at 14 _ rfl
 have Rf14:=oR.ok 14 (by simp)
 have Rl:=oR.lt
 clear oR
 go_wp2_with (fail)
 change bodyPost _ _ _ _ _ (w5.setCells R 0 [.int .u64 x0,.int .i64 x1,.int .u32 x2,.int .u8 (G 0),.int .u8 (G 1),.int .u8 (G 2),.int .u8 (G 3),.int .u8 (G 4),.int .u8 (G 5),.int .u8 (G 6),.int .u8 (G 7),.int .u32 x4,.int .u32 x5,.int .i64 x6,.int .i64 x7])
 have HR9:Own R [.int .u64 x0,.int .i64 x1,.int .u32 x2,.int .u8 (G 0),.int .u8 (G 1),.int .u8 (G 2),.int .u8 (G 3),.int .u8 (G 4),.int .u8 (G 5),.int .u8 (G 6),.int .u8 (G 7),.int .u32 x4,.int .u32 x5,.int .i64 x6,.int .i64 x7] (w5.setCells R 0 [.int .u64 x0,.int .i64 x1,.int .u32 x2,.int .u8 (G 0),.int .u8 (G 1),.int .u8 (G 2),.int .u8 (G 3),.int .u8 (G 4),.int .u8 (G 5),.int .u8 (G 6),.int .u8 (G 7),.int .u32 x4,.int .u32 x5,.int .i64 x6,.int .i64 x7]):=Own.store HR5.out rfl
 have HB9:Below w.heap.size w (w5.setCells R 0 [.int .u64 x0,.int .i64 x1,.int .u32 x2,.int .u8 (G 0),.int .u8 (G 1),.int .u8 (G 2),.int .u8 (G 3),.int .u8 (G 4),.int .u8 (G 5),.int .u8 (G 6),.int .u8 (G 7),.int .u32 x4,.int .u32 x5,.int .i64 x6,.int .i64 x7]):=Below.setCells HB5.out Rw _ _
 have hL:=run_loadVar_mid (P:=Tryz.prog) _ R 0 27 [.int .u64 x0,.int .i64 x1,.int .u32 x2,.int .u8 (G 0),.int .u8 (G 1),.int .u8 (G 2),.int .u8 (G 3),.int .u8 (G 4),.int .u8 (G 5),.int .u8 (G 6),.int .u8 (G 7),.int .u32 x4,.int .u32 x5,.int .i64 x6,.int .i64 x7] _ HR9.cell Tryz.underlying27 rfl (by kernel_rfl)
 exact bodyPost_ret (v := .tuple #[.agg ([.int .u64 x0,.int .i64 x1,.int .u32 x2,.int .u8 (G 0),.int .u8 (G 1),.int .u8 (G 2),.int .u8 (G 3),.int .u8 (G 4),.int .u8 (G 5),.int .u8 (G 6),.int .u8 (G 7),.int .u32 x4,.int .u32 x5,.int .i64 x6,.int .i64 x7]:List Value).toArray,.int .i64 0]) (gres_two Tryz.results39 rfl hL rfl) rfl ⟨rfl,HB9⟩
end Go.Proofs.YtbilamnnneddmaaGreatDoor
namespace Go.Proofs.YtbilamnnneddmaaGreatDoor
set_option linter.unusedVariables false
set_option maxRecDepth 2000
set_option linter.unusedSimpArgs false
open Go.RowKit
theorem gdg_leN (f:Nat→Int):∀ (n i:Nat),(∀ j,j<n→inB (f j))→i<n→dg (leN f n) i=f i:=by
 intro n i hf hi
 have e:=leN_congr (f:=dg (leN f n)) (g:=dg (leN f n)) (n:=n) (fun _ _=>rfl)
 induction n with
 | zero=>omega
 | succ n ih =>
  have hl:=leN_lt f n (fun j hj=>hf j (by omega))
  have hb:=hf n (by omega)
  unfold inB at hb
  by_cases hin:i<n
  ·rw[← ih (fun j hj=>hf j (by omega)) hin rfl,leN]
   unfold dg
   obtain⟨d,rfl⟩:∃ d,n=i+1+d:=⟨n - (i+1),by omega⟩
   rw[show pw (i+1+d)=pw i*(256*pw d) by rw[pw_add,pw_succ];simp only[Int.mul_comm,Int.mul_left_comm,Int.mul_assoc]]
   rw[Int.mul_assoc,Int.add_mul_ediv_left _ _ (by have:=pw_pos i;omega),Int.mul_assoc]
   omega
  ·obtain rfl:i=n:=by omega
   rw[leN]
   unfold dg
   rw[Int.add_mul_ediv_left _ _ (by have:=pw_pos i;omega),Int.ediv_eq_zero_of_lt hl.1 hl.2]
   omega
theorem val_of {F:Nat→Int} {t W:Nat} {z:Int} (h:∀ i,i<W→F (t+i)=dg z i) (h0:0≤z) (hz:z<pw W) (hT:t+W≤35):gvalN F 35 t W=z:=by
 unfold gvalN
 rw[if_pos hT,leN_congr (g:=dg z) h,leN_dg,Int.emod_eq_of_lt h0 hz]
theorem val_congr {F G:Nat→Int} {t W:Nat} (h:∀ j,j<35→F j=G j):gvalN F 35 t W=gvalN G 35 t W:=by
 unfold gvalN
 split
 ·exact leN_congr fun j hj=>h _ (by omega)
 ·rfl
theorem maskB_congr {g g':Nat→Int} (h:∀ j,j<8→g j=g' j):maskB g=maskB g':=allB_congr fun j hj=>by rw[h j hj]
theorem checkF_congr {k f t s c:Int} {g g':Nat→Int} (h:∀ j,j<8→g j=g' j):checkF k g f t s c=checkF k g' f t s c:=by
 unfold checkF
 rw[maskB_congr h]
theorem genc_back (mi mk ml:Int) (mg:Nat→Int) (mf mt ms mc:Int) (IM:InM mi mk ml mg mf mt ms mc) (hz:checkF mk mg mf mt ms mc=0) (F:Nat→Int) (hF:F=(gencF mi mk ml mg mf mt ms mc)):gvalN F 35 0 8=mi∧gvalN F 35 8 1=mk∧gvalN F 35 9 4=ml∧(∀ j,j<8→mskN F 35 j=mg j)∧gvalN F 35 21 4=mf∧gvalN F 35 25 4=mt∧gvalN F 35 29 4=ms∧gvalN F 35 33 2=mc:=by
 subst hF
 obtain⟨⟨k1,k4⟩,m15,fl,s1,s2,ec,c1,c8⟩:=check_ok hz
 have p8:=pw_vals.2.2.2.2.2.2.2;have p1:=pw_vals.1;have p4:=pw_vals.2.2.2.1;have p2:=pw_vals.2.1
 have a:=IM.hi;have b:=IM.hl;have c:=IM.hf;have d:=IM.ht
 refine⟨val_of (enc_i mi mk ml mg mf mt ms mc) (by omega) (by omega) (by decide),val_of (enc_k mi mk ml mg mf mt ms mc) (by omega) (by omega) (by decide),val_of (enc_l mi mk ml mg mf mt ms mc) (by omega) (by omega) (by decide),fun j hj=>?_,val_of (enc_f mi mk ml mg mf mt ms mc) (by omega) (by omega) (by decide),val_of (enc_t mi mk ml mg mf mt ms mc) (by omega) (by omega) (by decide),val_of (enc_s mi mk ml mg mf mt ms mc) (by omega) (by omega) (by decide),val_of (enc_c mi mk ml mg mf mt ms mc) (by omega) (by omega) (by decide)⟩
 have g:=IM.hg j hj
 unfold inB at g
 exact val_of (fun i hi=>enc_g mi mk ml mg mf mt ms mc j i hj hi) g.1 (by omega) (by omega)
theorem enc_of (F:Nat→Int) (hF:∀ j,j<35→inB (F j)) (j:Nat) (hj:j<35):gencF (gvalN F 35 0 8) (gvalN F 35 8 1) (gvalN F 35 9 4) (mskN F 35) (gvalN F 35 21 4) (gvalN F 35 25 4) (gvalN F 35 29 4) (gvalN F 35 33 2) j=F j:=by
 have V:∀ t W i,t+W≤35→i<W→dg (gvalN F 35 t W) i=F (t+i):=fun t W i h h2=>by
  unfold gvalN
  rw[if_pos h]
  exact gdg_leN (fun j=>F (t+j)) W i (fun j hj=>hF _ (by omega)) h2
 unfold gencF
 split
 ·rw[V 0 8 j (by decide) (by omega)];congr 1;omega
 ·split
  ·rw[V 8 1 _ (by decide) (by omega)];congr 1;omega
  ·split
   ·rw[V 9 4 _ (by decide) (by omega)];congr 1;omega
   ·split
    ·unfold mskN
     rw[V _ 1 0 (by omega) (by decide)];congr 1;omega
    ·split
     ·rw[V 21 4 _ (by decide) (by omega)];congr 1;omega
     ·split
      ·rw[V 25 4 _ (by decide) (by omega)];congr 1;omega
      ·split
       ·rw[V 29 4 _ (by decide) (by omega)];congr 1;omega
       ·rw[V 33 2 _ (by decide) (by omega)];congr 1;omega
theorem in_vals (F:Nat→Int) (hF:∀ j,j<35→inB (F j)):InM (gvalN F 35 0 8) (gvalN F 35 8 1) (gvalN F 35 9 4) (mskN F 35) (gvalN F 35 21 4) (gvalN F 35 25 4) (gvalN F 35 29 4) (gvalN F 35 33 2):=by
 have p8:=pw_vals.2.2.2.2.2.2.2;have p1:=pw_vals.1;have p4:=pw_vals.2.2.2.1;have p2:=pw_vals.2.1
 have b0:=gin_valN hF 0 8;have b1:=gin_valN hF 8 1;have b2:=gin_valN hF 9 4;have b4:=gin_valN hF 21 4;have b5:=gin_valN hF 25 4;have b6:=gin_valN hF 29 4;have b7:=gin_valN hF 33 2
 refine⟨by omega,by omega,by omega,fun j hj=>?_,by omega,by omega,by omega,by omega⟩
 have b3:=gin_valN hF (13+j) 1
 unfold mskN inB
 omega
end Go.Proofs.YtbilamnnneddmaaGreatDoor
namespace Go.Proofs.YtbilamnnneddmaaGreatDoor
set_option linter.unusedVariables false
set_option maxRecDepth 2000
set_option linter.unusedSimpArgs false
open Go.RowKit
attribute [local go_sem] nums_length
theorem nm_row {w:World} {base n:Nat} {e:TypeId} {k:IntKind} {q:Option Addr} {m c:Nat} {f:Nat→Int} (h:w.ownsRow base e 1 (.slice q m c) n (nums k f n)):m=n∧Nm w k q n f:=by
 rcases h.2 with ⟨h0,rfl⟩ | ⟨g,cap,cur,h0,_,hg,_⟩
 ·cases h0;exact⟨rfl,.inl rfl⟩
 ·cases h0;exact⟨rfl,.inr ⟨g,0,rfl,(row_has h).1⟩⟩
theorem infoQ:(Tryz.prog.info? 24).map (fun i=>(i.zero,i.size,i.bytes))=some (some (.int .u64 0),1,8):=by kernel_rfl
theorem infoQ_parts:∃ i,Tryz.prog.info? 24=some i∧i.zero=some (.int .u64 0)∧i.size=1∧i.bytes=8:=by
 obtain⟨i,hi,h⟩:=Option.map_eq_some_iff.1 infoQ
 simp only[Prod.mk.injEq] at h
 exact⟨i,hi,h.1,h.2.1,h.2.2⟩
end Go.Proofs.YtbilamnnneddmaaGreatDoor
namespace Go.Proofs.YtbilamnnneddmaaGreatDoor
set_option linter.unusedVariables false
set_option maxRecDepth 2000
set_option linter.unusedSimpArgs false
open Go.RowKit
attribute [local go_sem] nums_length
attribute [local go_sem ↓ high] sliced_head sliced_one
structure RRd (w:World) (S D:Nat) (F:Nat→Int) (N at_:Nat) (er:Int):Prop where
 ex:∃ p c,Own S [.slice p N c,.int .i64 at_,.int .i64 er] w∧BytD w p N F S D∧N≤c∧c≤9223372036854775807
 le:at_≤N
theorem RRd.lt {w:World} {S D:Nat} {F:Nat→Int} {N at_:Nat} {er:Int} (h:RRd w S D F N at_ er):S<w.heap.size:=by
 obtain⟨p,c,h1,_⟩:=h.ex
 exact h1.lt
theorem RRd.later {w w':World} {S D:Nat} {F:Nat→Int} {N at_:Nat} {er:Int} (h:RRd w S D F N at_ er) (hb:Below w.heap.size w w'):RRd w' S D F N at_ er:=by
 obtain⟨p,c,h1,h2,h3,h4⟩:=h.ex
 exact⟨⟨p,c,h1.later hb,h2.later hb,h3,h4⟩,h.le⟩
theorem RRd.far {w w':World} {S D K:Nat} {F:Nat→Int} {N at_:Nat} {er:Int} (h:RRd w S D F N at_ er) (hb:But K w w') (hS:S≠K) (hD:D≠K):RRd w' S D F N at_ er:=by
 obtain⟨p,c,h1,h2,h3,h4⟩:=h.ex
 exact⟨⟨p,c,h1.but hb hS,h2.far hb hD,h3,h4⟩,h.le⟩
end Go.Proofs.YtbilamnnneddmaaGreatDoor
