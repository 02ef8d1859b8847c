import Derived.Test.YtbilamnnneddmaaGreatDoorZQnx
import Derived.Test.YtbilamnnneddmaaGreatDoorZTXBx
import Derived.Lib.Hide
import Derived.Deep.Onto
namespace Go.Proofs.YtbilamnnneddmaaGreatDoor
set_option linter.unusedVariables false
set_option maxRecDepth 2000
set_option linter.unusedSimpArgs false
open Go.RowKit
theorem chunks_any (p:Option Addr) (n c:Nat) (w:World):Calls Tryz.prog 29 #[.slice p n c] w fun e w'=>∃ B,e = .returned (.func (.func 61) #[] #[.pointer (some ⟨B,0,none⟩)])∧w.heap.size≤B∧Own B [.slice p n c] w'∧Below w.heap.size w w':=by
 have hmf:∀ (fn:Fn) (first cap:Array Value) (w:World),(Instr.makeFunc fn first cap).run Tryz.prog w = .ok (.func fn first cap) w:=fun _ _ _ _=>rfl
 go_enter Tryz.func29,Tryz.ntmps29
 go_wp2_with (fail)
 go_ret
 exact⟨_,rfl,Nat.le_refl _,Own.newAt rfl,Below.al (Below.refl _ _)⟩
theorem ap0_ {L D o:Nat} {p:Option Addr} (hp:L=0∨p=some ⟨D,o,none⟩) (h:0<chN L):p=some ⟨D,o+256*0,none⟩:=hp.resolve_left (by intro h0;subst h0;exact absurd h (by decide))
set_option maxHeartbeats 8000000 in
theorem chunk_in (n B L c D o:Nat) (p:Option Addr) (hp:L=0∨p=some ⟨D,o,none⟩) (hLc:L≤c) (hc:c≤9223372036854775807) (hL:L≤70368744177664) (l:Nat) (Bk Bx:World→Prop) (J:Nat→World→Prop) (St:World→Prop) (W1:World)
  (hown:Own B [.slice p L c] W1) (b1:Bk W1) (hI:J 0 W1)
  (hY:∀ k W,Bk W→J k W→k<chN L→YieldAt Fence.wide (n - 1) Tryz.prog l #[.int .i64 k,.slice (some ⟨D,o+256*k,none⟩) (chL L k) (chL L k)] W fun e W'=>(e = .returned (.bool true)∧Bk W'∧J (k+1) W')∨(e = .returned (.bool false)∧Bx W'∧St W')) :
  CallsIn Fence.wide n Tryz.prog 61 #[.func (.yield l) #[] #[],.pointer (some ⟨B,0,none⟩)] W1 fun e W'=>(∃ v,e = .returned v)∧((Bk W'∧J (chN L) W')∨(Bx W'∧St W')):=by
 have HK:=Lib.hid b1;have HI:=Lib.hid hI
 have o0:=hown.at 0 _ rfl;have ol:=hown.lt
 clear b1 hI hown
 refine callsIn_of_wp Tryz.func61 rfl trivial ?_ rfl
 simp only[Tryz.ntmps61,List.size_toArray,List.length_cons,List.length_nil,Nat.reduceAdd,Nat.reduceSub,Array.replicate_succ,Array.replicate_zero,List.push_toArray,List.append_toArray,List.nil_append,List.cons_append]
 gi_wp2
 clear o0 ol
 gi_loopw [3,4] (fun rv iv wr=>∃ (k:Nat) (q:Option Addr) (d:Nat),k≤chN L∧iv = .int .i64 k∧rv = .slice q (L - 256*k) d∧Hid (L - 256*k≤d∧d≤9223372036854775807)∧(k<chN L→q=some ⟨D,o+256*k,none⟩)∧Hid (J k wr)∧Hid (Bk wr)) (fun _ iv _=>(chN L - (intOf iv).toNat))
 case atStart=>exact⟨0,p,c,Nat.zero_le _,rfl,rfl,Lib.hid ⟨hLc,hc⟩,ap0_ hp,HI,HK⟩
 case round =>
  clear HI HK
  obtain⟨k,q,d,hk,rfl,rfl,HD,hq,HJ,HK⟩:=hrel
  by_cases hlt:k<chN L
  ·obtain rfl:=hq hlt
   have HLT:=Lib.hid hlt
   have hlk:256*k<L:=by unfold chN at hlt;omega
   have hgt:(0:Int)<((L - 256*k:Nat):Int):=by omega
   have hmin:min ((L - 256*k:Nat):Int) 256=(chL L k:Nat):=by unfold chL;omega
   have n0:(0:Int)≤(chL L k:Nat):=by omega
   have n1:((chL L k:Nat):Int)≤(d:Int):=by have:=HD.out;unfold chL;omega
   have n2:((chL L k:Nat):Int)≤((L - 256*k:Nat):Int):=by unfold chL;omega
   have n3:((L - 256*k:Nat):Int)≤(d:Int):=by have:=HD.out;omega
   have wk:IntKind.i64.wrap ((k:Int)+1)=(k:Int)+1:=IntWalk.i64_in _ (by omega)
   obtain⟨fn,tmps,assign,body,hy,hR⟩:=hY k wr HK.out HJ.out hlt
   have HC:Hid (chL L k=min (L - 256*k) 256):=Lib.hid rfl
   clear hq hlt hlk HJ HK
   gi_wp2
   refine⟨(fun h=>by cases h),hR.mono ?_⟩
   rintro e W3 (⟨rfl,hb3,hj3⟩ | ⟨rfl,hx3,hs3⟩)
   ·have B3:=Lib.hid hb3;have J3:=Lib.hid hj3
    clear hb3 hj3 hR hy
    gi_wp2
    go_roundw
    case rel=>exact⟨k+1,_,_,HLT.out,by simp,by congr 1;have:=HC.out;omega,Lib.hid ⟨by have:=HC.out;have:=HD.out;omega,by have:=HD.out;omega⟩,(fun h=>by have:=HC.out;have:=HD.out;unfold chN at h;rw[if_neg (by omega)];congr 2;omega),J3,B3⟩
    case measure=>simp[intOf];have:=HLT.out;omega
   ·have B3:=Lib.hid hx3;have J3:=Lib.hid hs3
    clear hx3 hs3 hR hy
    gi_wp2
    exact bodyPost_ret (results_none rfl _ _ _) rfl ⟨⟨_,rfl⟩,.inr ⟨B3.out,J3.out⟩⟩
  ·obtain rfl:k=chN L:=by omega
   have hz:¬(0<L - 256*chN L):=by unfold chN;omega
   gi_wp2
   go_end0
   exact⟨⟨_,rfl⟩,.inl ⟨HK.out,HJ.out⟩⟩
end Go.Proofs.YtbilamnnneddmaaGreatDoor
