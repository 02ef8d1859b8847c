import Derived.Test.YtbilamnnneddmaaGreatDoorYHUx
import Derived.Lib.Hide
import Derived.LoopN
import Derived.LoopTactic
import Derived.Deep.Onto
import Derived.Lib.AppendZerosOnto
import Derived.Laws.MakeOwn
namespace Go.Proofs.YtbilamnnneddmaaGreatDoor
set_option linter.unusedVariables false
set_option maxRecDepth 2000
set_option linter.unusedSimpArgs false
open Go.RowKit
theorem al1 (w:World) (a:Nat) (cs:Array Value) (T:TypeId) (l:List Value) (ha:w.heap.size=a) (h:cs.toList=l):∃ W X,w.alloc (.cells cs T)=W∧a=X∧Hid (Own X l W)∧Hid (Below w.heap.size w W)∧Hid (w.heap.size≤X)∧W.heap.size=X+1 :=
 ⟨_,_,rfl,rfl,Lib.hid (by subst h;exact Own.newAt ha.symm),Lib.hid (Below.al (Below.refl _ _)),Lib.hid (Nat.le_of_eq ha),by rw[World.size_alloc,ha]⟩
theorem wpList_make_grow {w:World} {ops:Array Oper} {rest:List Oper} {o:Oper} {a:Act} {Q:Exit→Act→World→Prop} (hgd:o.guard=none) (s x:Operand)
  (ho:o.op = .call { callee := .builtin .append,args:=#[s,x],argTypes:=#[47,3] }) (k:Nat) (hs:a.eval s = .slice none 0 0) (hx:a.eval x = .int .i64 k) (h0:0<k) (hk:k≤70368744177664)
  (h:∀ cap w',k≤cap→w'.ownsRow w.heap.size 5 1 (.slice (some ⟨w.heap.size,0,none⟩) 0 cap) 0 []→Below w.heap.size w w'→wpList Tryz.prog ops Q rest (a.put o.dst (.slice (some ⟨w.heap.size,0,none⟩) k cap)) w'):wpList Tryz.prog ops Q (o :: rest) a w :=
 wpList_plain hgd fun K hK=>by
  obtain⟨i0,hi,hz0,hz1,hz2⟩:=infoB_parts
  have h1:i0.size=1:=hz1
  have h2:i0.bytes=1:=hz2
  have hn:=nextslicecap_le (need:=k) (old:=0) h0
  have hcap:=grownCap_ge w k 0 5
  have hmax:=grownCap_le_maxLen w k 0 5 (by unfold maxLen;omega)
  have hr:=Lib.run_append_grow_zeros (P:=Tryz.prog) w 47 3 o.type 5 i0 (.int .u8 0) .i64 .i64 Tryz.underlying47 Tryz.underlying3 hi hz0 none 0 0 [] (by simp[Builtin.firstCells,h1]) k h0 (by omega) (by omega) (by omega) (by rw[h2];omega) (by rw[h2];simp only[Nat.zero_add];omega)
  simp only[Nat.zero_add] at hr
  unfold Oper.wp
  simp[execOp,ho,resolve,invoke,builtin,hs,hx,hr,Result.andThen]
  refine hK _ _ (h _ _ hcap ?_ ?_)
  ·have hsz:([].toArray ++ Builtin.zeroCells (Value.int .u8 0).cells k ++ Builtin.zeroCells (Value.int .u8 0).cells (grownCap w k 0 5 - k):Array Value).size=grownCap w k 0 5*1:=by
    simp[Builtin.zeroCells,Value.cells]
    omega
   have:=World.ownsRow_made (base:=w.heap.size) (e:=5) (size:=1) w.drew _ _ (Nat.le_refl _) hmax hsz
   simpa using this
  ·have:=Below.al (o := .cells ([].toArray ++ Builtin.zeroCells (Value.int .u8 0).cells k ++ Builtin.zeroCells (Value.int .u8 0).cells (grownCap w k 0 5 - k)) 5) (Below.drew (Below.refl w.heap.size w))
   simpa using this
set_option maxHeartbeats 4000000 in
theorem Grow_nil (k:Nat) (hk:k≤70368744177664) (w:World) :
  Calls Tryz.prog 60 #[.slice none 0 0,.int .i64 k] w fun e w'=>∃ v,e = .returned v∧w'.ownsRow w.heap.size 5 1 v 0 []∧Below w.heap.size w w':=by
 have h1:¬((k:Int)<0):=by omega
 have w0:IntKind.i64.wrap (0 - 0)=0:=by decide
 have w1:IntKind.i64.wrap (0:Int)=0:=by decide
 have w2:IntKind.i64.wrap (k:Int)=k:=IntWalk.i64_in _ (by omega)
 by_cases h0:k=0
 ·subst h0
  go_enter Tryz.func60,Tryz.ntmps60
  go_wp2_with (fail)
  go_ret
  exact⟨_,rfl,World.ownsRow_nil _ _ _ _,Below.refl _ _⟩
 ·have h2:(0:Int)<(k:Int):=by omega
  have HK:=Lib.hid (show 0<k by omega);have HK2:=Lib.hid hk
  go_enter Tryz.func60,Tryz.ntmps60
  go_wp2_with (at_builtin;refine wpList_make_grow rfl _ _ rfl k rfl (by simp[go_sem,w0,w1,w2]) HK.out HK2.out ?_;intro cap w6 hcap hrow hb;have o1:=Lib.hid hrow;have o2:=Lib.hid hb;have o3:(k:Int)≤(cap:Int):=(by omega);clear hrow hb)
  go_ret
  exact⟨_,rfl,o1.out,o2.out⟩
set_option maxHeartbeats 8000000 in
theorem Concat_any (p:Option Addr) (np cp:Nat) (g:Nat→Int) (T:Nat→Nat) (hT0:T 0=0) (hT:∀ k,k≤np→T k≤65536) (hnc:np≤cp) (hcm:cp≤9223372036854775807) (w:World) (hp:Parts w p np g T) :
  Calls Tryz.prog 27 #[.slice p np cp] w fun e w'=>∃ v,e = .returned v∧w'.ownsRow w.heap.size 5 1 v (T np) (nums .u8 g (T np))∧Below w.heap.size w w':=by
 have PW:=Lib.hid hp;have HT:=Lib.hid hT;have HT0:=Lib.hid hT0;have NC:=Lib.hid hnc;have CM:=Lib.hid hcm
 clear hp hT hT0 hnc hcm
 go_enter Tryz.func27,Tryz.ntmps27
 go_wp2_with (fail)
 go_loopw [3,11] (fun s iv wr=>∃ (k:Nat),k≤np∧s = .int .i64 (T k)∧iv = .int .i64 k∧Hid (w=wr)) (fun _ iv _=>(np - (intOf iv).toNat))
 case atStart=>exact⟨0,Nat.zero_le _,by rw[HT0.out];rfl,rfl,by first | exact Lib.hid rfl | exact Lib.hid trivial⟩
 case round =>
  obtain⟨k,hk,rfl,rfl,hw⟩:=hrel
  have hw:=hw.out
  subst hw
  by_cases hlt:k<np
  ·obtain⟨D,o,q,m,c,rfl,hD,hcell,hmc,hcx,hTk,hby⟩:=PW.out k hlt
   have hki:(k:Int)<(np:Int):=by omega
   have k0:(0:Int)≤(k:Int):=by omega
   have k63:(k:Int)+1≤9223372036854775807:=by have:=NC.out;have:=CM.out;omega
   have wk:IntKind.i64.wrap ((k:Int)+1)=(k:Int)+1:=IntWalk.i64_in _ (by omega)
   have hT1:=HT.out (k+1) (by omega)
   have wt:IntKind.i64.wrap ((T k:Int)+(m:Int))=(T k:Int)+(m:Int):=IntWalk.i64_in _ (by omega)
   have h0:¬((T k:Int)+(m:Int)<0):=by omega
   have HTk:=Lib.hid hTk
   have HLT:=Lib.hid hlt
   clear hTk hT1 hby
   go_wp2_with (fail)
   go_roundw
   case rel=>exact⟨k+1,HLT.out,by rw[HTk.out];simp,by simp,by first | exact Lib.hid rfl | exact Lib.hid trivial⟩
   case measure=>simp[intOf];have:=HLT.out;omega
  ·obtain rfl:k=np:=by omega
   go_wp2_with (fail)
   go_at_call 60
   refine (Grow_nil (T k) (by have:=HT.out k (Nat.le_refl _);omega) _).mono ?_
   rintro e w1 ⟨v,rfl,hrow,hb⟩
   obtain⟨pv,cv,rfl,_⟩:=row_form hrow
   have R1:=Lib.hid hrow;have B1:=Lib.hid hb
   clear hrow hb
   go_wp2_with (fail)
   go_loopw [6,27] (fun v iv wr=>∃ (j:Nat) (p3:Option Addr) (c3:Nat),j≤k∧v = .slice p3 (T j) c3∧iv = .int .i64 j∧Hid (wr.ownsRow w.heap.size 5 1 (.slice p3 (T j) c3) (T j) (nums .u8 g (T j)))∧Hid (Below w.heap.size w wr)) (fun _ iv _=>(k - (intOf iv).toNat))
   case atStart=>exact⟨0,pv,cv,Nat.zero_le _,by rw[HT0.out],rfl,by rw[HT0.out];exact R1,B1⟩
   case round =>
    clear R1 B1
    obtain⟨j,p3,c3,hj,rfl,rfl,ROW,HB⟩:=hrel
    by_cases hlt:j<k
    ·obtain⟨D,o,q,m,c,rfl,hD,hcell,hmc,hcx,hTk,hby⟩:=(PW.out.later HB.out) j hlt
     have hki:(j:Int)<(k:Int):=by omega
     have k0:(0:Int)≤(j:Int):=by omega
     have k63:(j:Int)+1≤9223372036854775807:=by have:=NC.out;have:=CM.out;omega
     have wk:IntKind.i64.wrap ((j:Int)+1)=(j:Int)+1:=IntWalk.i64_in _ (by omega)
     have hT1:=HT.out (j+1) (by omega)
     have HTk:=Lib.hid hTk;have HLT:=Lib.hid hlt;have HBY:=Lib.hid hby
     have XS:=Lib.hid (nums_append .u8 g (fun i=>g (T j+i)) (T j) m (fun i hi=>rfl))
     have N63:=Lib.hid (show T j+m≤140737488355328 by omega)
     clear hTk hby hT1
     go_wp2_with (at_builtin;refine wpList_append_b rfl _ _ rfl w.heap.size _ (T j) _ rfl ROW.out q m c _ rfl HBY.out N63.out HB.out.size ?_;intro v' w6 hrow hgr;obtain⟨p',c',rfl,_⟩:=row_form hrow;rw[XS.out] at hrow;have o4:=Lib.hid (HB.out.grown hgr HB.out.size fun q hq=>row_ge ROW.out q hq);have o6:=Lib.hid hrow;clear hrow hgr)
     go_roundw
     case rel=>exact⟨j+1,_,_,HLT.out,by rw[HTk.out],by simp,Lib.hid (by rw[HTk.out];exact o6.out),o4⟩
     case measure=>simp[intOf];have:=HLT.out;omega
    ·obtain rfl:j=k:=by omega
     go_wp2_with (fail)
     go_ret
     exact⟨_,rfl,ROW.out,HB.out⟩
end Go.Proofs.YtbilamnnneddmaaGreatDoor
