import Derived.Test.YtbilamnnneddmaaGreatDoorZCOx
import Derived.Deep.QuietTactic
import Derived.Laws.BytesString
import Derived.Shelf.Bytes.SlSmallAll
import Derived.Test.YtbilamnnneddmaaGreatDoorZCHx
import Derived.Deep.Onto
import Derived.Lib.Hide
import Derived.Laws.BitsLemmas
import Derived.LoopN
import Derived.LoopTactic
import Derived.Laws.OwnMore
namespace Go.Proofs.YtbilamnnneddmaaGreatDoor
set_option linter.unusedVariables false
set_option maxRecDepth 2000
set_option linter.unusedSimpArgs false
open Go.RowKit
theorem conv_any (q:Option Addr) (n c:Nat) (f:Nat→Int) (w:World) (h:Byt w q n f) :
  (convert 47 9 (.slice q n c)).run Tryz.prog w = .ok (.string (strOfNums ((List.range n).map f))) w:=by
 by_cases hn:n=0
 ·subst hn
  exact run_convert_bytes_zero w 47 5 Tryz.underlying47 Tryz.underlying5 q c 9 Tryz.underlying9
 ·obtain⟨b,off,rfl,hb⟩:=h.resolve_left hn
  exact run_convert_bytes_arg (P:=Tryz.prog) w 47 5 Tryz.underlying47 Tryz.underlying5 b off n c ((List.range n).map f) (by simp) (fun i hi=>by
   rw[hb.cell i _ (nums_at _ _ hi)]
   simp[hi]) 9 Tryz.underlying9
theorem Equal_any (q1 q2:Option Addr) (n c1 c2:Nat) (f:Nat→Int) (w:World) (h1:Byt w q1 n f) (h2:Byt w q2 n f):Calls Tryz.prog 12 #[.slice q1 n c1,.slice q2 n c2] w fun e w'=>e = .returned (.bool true)∧Below w.heap.size w w':=by
 have e1:=conv_any q1 n c1 f w h1
 have e2:=conv_any q2 n c2 f w h2
 generalize strOfNums ((List.range n).map f)=S at *
 clear h1 h2
 go_enter Tryz.func12,Tryz.ntmps12
 go_wp2_with (fail)
 go_ret
 exact⟨rfl,Below.refl _ _⟩
end Go.Proofs.YtbilamnnneddmaaGreatDoor
namespace Go.Proofs.YtbilamnnneddmaaGreatDoor
set_option linter.unusedVariables false
set_option maxRecDepth 2000
set_option linter.unusedSimpArgs false
open Go.RowKit
theorem wpList_val {P:Program} {ops:Array Oper} {rest:List Oper} {op:Oper} {a:Act} {w:World} {Q:Exit→Act→World→Prop} (hgd:op.guard=none) (v:Value)
  (hrun:(execOp (fun x=>a.eval x) op).run P w = .ok (.value v) w) (h:wpList P ops Q rest (a.put op.dst v) w):wpList P ops Q (op :: rest) a w :=
 wpList_plain hgd fun K hK=>by
  unfold Oper.wp
  rw[hrun]
  exact hK _ _ h
theorem byt_row {w:World} {base n:Nat} {e:TypeId} {q:Option Addr} {m c:Nat} {f:Nat→Int} (h:w.ownsRow base e 1 (.slice q m c) n (nums .u8 f n)):m=n∧Byt w q n f:=by
 rcases h.2 with ⟨h0,rfl⟩ | ⟨g,cap,cur,h0,_,hg,_⟩
 ·cases h0;exact⟨rfl,.inl rfl⟩
 ·cases h0;exact⟨rfl,.inr ⟨g,0,rfl,(row_has h).1⟩⟩
def slq (p:Option Addr) (l c:Nat):Option Addr:=if c=l then p else p.map (·.add l)
theorem sliced_one (p:Option Addr) (l h c:Nat):sliced p l h c 1 = .slice (slq p l c) (h - l) (c - l):=by
 unfold sliced slq
 rw[Nat.mul_one]
attribute [local go_sem ↓ high] sliced_head sliced_one
end Go.Proofs.YtbilamnnneddmaaGreatDoor
namespace Go.Proofs.YtbilamnnneddmaaGreatDoor
set_option linter.unusedVariables false
set_option maxRecDepth 2000
set_option linter.unusedSimpArgs false
open Go.RowKit
theorem i64_and15 (n:Int):bits .and .i64 n 15=n%16:=by
 have h15:(BitVec.ofInt 64 15).toNat=2 ^ 4 - 1:=by decide
 have key:(BitVec.ofInt 64 n &&& BitVec.ofInt 64 15).toNat=(n%((2 ^ 64:Nat):Int)).toNat%2 ^ 4:=by
  rw[BitVec.toNat_and,BitVec.toNat_ofInt,h15,Nat.and_two_pow_sub_one_eq_mod]
 show IntKind.i64.wrap ((BitVec.ofInt 64 n &&& BitVec.ofInt 64 15).toNat:Nat)=n%16
 rw[key,IntKind.wrap_i64]
 omega
def padN (n:Nat):Nat:=(16 - n%16)%16
set_option maxHeartbeats 4000000 in
theorem pad_any (Z:Nat) (p:Option Addr) (n c:Nat) (hn:n≤65536) (w:World) :
  Calls Tryz.prog 89 #[.slice p n c,.pointer (some ⟨Z,0,none⟩)] w fun e w'=>e = .returned (.slice (some ⟨Z,0,none⟩) (padN n) 16)∧Below w.heap.size w w':=by
 have e1:IntKind.i64.wrap (-(n:Int)) = -(n:Int):=IntWalk.i64_in _ (by omega)
 have e2:bits .and .i64 (-(n:Int)) 15=((padN n:Nat):Int):=by rw[i64_and15,padN];omega
 have hp:padN n≤16:=by unfold padN;omega
 obtain⟨k,ek⟩:∃ k,padN n=k:=⟨_,rfl⟩
 rw[ek] at e2 hp ⊢
 have k0:(0:Int)≤(k:Int):=by omega
 have k1:(k:Int)≤16:=by omega
 clear ek
 go_enter Tryz.func89,Tryz.ntmps89
 go_wp2_with (fail)
 go_ret
 exact⟨by first | rfl | simp[sliced_head],Below.refl _ _⟩
theorem long_any (p q:Option Addr) (n m c d:Nat) (hn:n≤16384) (hm:m≤16384) (w:World) :
  Calls Tryz.prog 54 #[.slice p n c,.slice q m d] w fun e w'=>e = .returned (.bool false)∧Below w.heap.size w w':=by
 have g1:decide (16384<n)=false:=by simp;omega
 have g2:decide (16384<m)=false:=by simp;omega
 have g3:decide ((16384:Int)<(n:Int))=false:=by simp;omega
 have g4:decide ((16384:Int)<(m:Int))=false:=by simp;omega
 clear hn hm
 go_enter Tryz.func54,Tryz.ntmps54
 go_wp2_with (fail)
 go_ret
 exact⟨by first | rfl | simp,Below.refl _ _⟩
theorem nwpList_append_b {w:World} {ops:Array Oper} {rest:List Oper} {o:Oper} {a:Act} {Q:Exit→Act→World→Prop} (hgd:o.guard=none) (s x:Operand)
  (ho:o.op = .call { callee := .builtin .append,args:=#[s,x],argTypes:=#[47,47] }) (base:Nat) (v:Value) (L:Nat) (xs:List Value) (hs:a.eval s=v) (hown:w.ownsRow base 5 1 v L xs)
  (q:Option Addr) (n c:Nat) (f:Nat→Int) (hx:a.eval x = .slice q n c) (hby:Byt w q n f) (h63:L+n≤140737488355328) (hbase:base≤w.heap.size)
  (h:∀ v' w',w'.ownsRow base 5 1 v' (L+n) (xs ++ nums .u8 f n)→w.grownBy w' v.ownBlock→wpList Tryz.prog ops Q rest (a.put o.dst v') w'):wpList Tryz.prog ops Q (o :: rest) a w:=by
 obtain⟨i0,hi,hz0,hz1,hz2⟩:=infoB_parts
 rcases hby with h0 | ⟨b,off,rfl,hb⟩
 ·subst h0
  refine wpList_append_zero hgd s x 47 ho Tryz.underlying47 hi hs hown q c hx (h v w ?_ (World.grownBy.refl w _))
  rw[Nat.add_zero,show nums .u8 f 0=[] from rfl,List.append_nil]
  exact hown
 ·exact wpList_append_own _ hgd s x 47 ho base 5 i0 (.int .u8 0) 1 1 Tryz.underlying47 hi hz0 hz1 hz2 rfl (by decide) v L xs hs hown ⟨b,off,none⟩ n c (nums .u8 f n) hx (by rw[nums_length,Nat.mul_one]) (fun j u hj=>by rw[Addr.add_mid];exact hb.cell j u hj) (nums_one _ _ _) (by unfold maxLen;omega) (by omega) hbase (fun v' w' h1 h2 _=>h v' w' h1 h2)
theorem nrow_cap_ {w:World} {base size n c:Nat} {e:TypeId} {p:Option Addr} {xs:List Value} (h:w.ownsRow base e size (.slice p n c) n xs):n≤c∧c≤9223372036854775807:=by
 rcases h.2 with ⟨h0,_⟩ | ⟨g,cap,cur,h0,_,_,h1,h2,_⟩
 ·cases h0;decide
 ·cases h0;unfold maxLen at h2;omega
end Go.Proofs.YtbilamnnneddmaaGreatDoor
namespace Go.Proofs.YtbilamnnneddmaaGreatDoor
set_option linter.unusedVariables false
set_option maxRecDepth 2000
set_option linter.unusedSimpArgs false
open Go.RowKit
def lenF (n m:Nat) (j:Nat):Int:=if j<8 then ((n/2 ^ (8*j)%256:Nat):Int) else ((m/2 ^ (8*(j - 8))%256:Nat):Int)
theorem in_lenF (n m j:Nat):inB (lenF n m j):=by
 unfold lenF inB
 split<;>omega
theorem lenF_part (n m k j L:Nat) (hk:k<2) (hj:j<8) (hL:L=if k=0 then n else m):lenF n m (8*k+j)=((L/2 ^ (8*j)%256:Nat):Int):=by
 subst hL
 have:k=0∨k=1:=by omega
 rcases this with rfl | rfl
 ·simp[lenF,hj]
 ·rw[lenF,if_neg (by omega),if_neg (by decide),show 8*1+j - 8=j by omega]
attribute [local go_sem] nums_length
set_option maxHeartbeats 4000000 in
theorem lengths_any (S n m c d:Nat) (p q:Option Addr) (hn:n≤65536) (hm:m≤65536) (w:World) (hS:Has S 0 [.slice p n c,.slice q m d] w) :
  Calls Tryz.prog 92 #[.slice (some ⟨S,0,none⟩) 2 2] w fun e w'=>∃ v,e = .returned v∧w'.ownsRow w.heap.size 5 1 v 16 (nums .u8 (lenF n m) 16)∧Below w.heap.size w w':=by
 have HS:=Lib.hid hS;have HN:=Lib.hid hn;have HM:=Lib.hid hm
 clear hS hn hm
 obtain⟨i0,hi,hz0,hz1,hz2⟩:=infoB_parts
 go_enter Tryz.func92,Tryz.ntmps92
 go_wp2_with (fail)
 go_loopw [3,9] (fun v iv wr=>∃ (k:Nat) (p3:Option Addr) (c3:Nat),k≤2∧v = .slice p3 (8*k) c3∧iv = .int .i64 k∧Hid (wr.ownsRow w.heap.size 5 1 (.slice p3 (8*k) c3) (8*k) (nums .u8 (lenF n m) (8*k)))∧Hid (Below w.heap.size w wr)) (fun _ iv _=>(2 - (intOf iv).toNat))
 case atStart=>exact⟨0,none,0,Nat.zero_le _,rfl,rfl,Lib.hid (World.ownsRow_nil _ _ _ _),Lib.hid (Below.refl _ _)⟩
 case round =>
  obtain⟨k,p3,c3,hk,rfl,rfl,ROW,HB⟩:=hrel
  by_cases hlt:k<2
  ·obtain⟨L,q1,c1,hcell,hL,LB⟩:∃ L q1 c1,wr.cell? ⟨S,k,none⟩=some (.slice q1 L c1)∧Hid (∀ j,j<8→lenF n m (8*k+j)=((L/2 ^ (8*j)%256:Nat):Int))∧L≤65536:=by
    have hs:=HS.out.later HB.out
    have k01:k=0∨k=1:=by omega
    rcases k01 with rfl | rfl
    ·exact⟨n,p,c,hs.at 0 _ rfl,Lib.hid fun j hj=>lenF_part n m 0 j n (by omega) hj rfl,HN.out⟩
    ·exact⟨m,q,d,hs.at 1 _ rfl,Lib.hid fun j hj=>lenF_part n m 1 j m (by omega) hj rfl,HM.out⟩
   have hki:(k:Int)<2:=by omega
   have k0:(0:Int)≤(k:Int):=by omega
   have wk:IntKind.i64.wrap ((k:Int)+1)=(k:Int)+1:=IntWalk.i64_in _ (by omega)
   have Sl:=(HS.out.later HB.out).lt
   go_wp2_with (fail)
   go_loopw [3,13] (fun v jv wq=>∃ (j:Nat) (p3:Option Addr) (c3:Nat),j≤8∧v = .slice p3 (8*k+j) c3∧jv = .int .i64 j∧Hid (wq.ownsRow w.heap.size 5 1 (.slice p3 (8*k+j) c3) (8*k+j) (nums .u8 (lenF n m) (8*k+j)))∧Hid (Below w.heap.size w wq)) (fun _ iv _=>(8 - (intOf iv).toNat))
   case atStart=>exact⟨0,p3,c3,Nat.zero_le _,rfl,rfl,ROW,HB⟩
   case round =>
    clear ROW HB hcell Sl
    obtain⟨j,p4,c4,hj,rfl,rfl,ROW,HB⟩:=hrel
    by_cases hjt:j<8
    ·have hji:(j:Int)<8:=by omega
     have j0:(0:Int)≤(j:Int):=by omega
     have wj:IntKind.i64.wrap ((j:Int)+1)=(j:Int)+1:=IntWalk.i64_in _ (by omega)
     have wj8:IntKind.i64.wrap (8*(j:Int))=((8*j:Nat):Int):=by rw[IntWalk.i64_in _ (by omega)];omega
     obtain⟨z,ez⟩:∃ z:Int,(L:Int)/2 ^ (8*j)%256=z:=⟨_,rfl⟩
     obtain⟨t,et⟩:∃ t,8*k+j=t:=⟨_,rfl⟩
     have XS:Hid (nums .u8 (lenF n m) t ++ [.int .u8 z]=nums .u8 (lenF n m) (t+1)):=Lib.hid (nums_append .u8 (lenF n m) (fun _=>z) t 1 (fun i hi=>by
      obtain rfl:i=0:=by omega
      rw[Nat.add_zero,← et,hL.out j hjt,← ez]
      push_cast
      rfl))
     have ET:=Lib.hid et
     have N63:=Lib.hid (show t+1≤maxLen by unfold maxLen;omega)
     have NBY:=Lib.hid (show (t+1)*1≤140737488355328 by omega)
     have HS2:Hid (w.heap.size≤(wr.alloc (.cells #[.int .u8 z] 5)).heap.size):=Lib.hid (Below.al HB.out).size
     rw[et] at ROW ⊢
     clear et hj
     go_wp2_with (at_builtin;refine wpList_append_own _ rfl _ _ 47 rfl w.heap.size 5 i0 (.int .u8 0) 1 1 Tryz.underlying47 hi hz0 hz1 hz2 rfl (by decide) _ (t) _ rfl (row_later ROW.out (Below.al (Below.refl _ _))) ⟨wr.heap.size,0,none⟩ 1 1 [.int .u8 z] rfl rfl (Own.newAt (by rfl)).news (by intro v hv;cases hv with | head=>rfl | tail _ h=>nomatch h) N63.out NBY.out HS2.out ?_;intro v' w6 hrow hgr _;obtain⟨p',c',rfl,_⟩:=row_form hrow;rw[XS.out] at hrow;have o4:=Lib.hid ((Below.al HB.out).grown hgr (Below.al HB.out).size fun q hq=>row_ge ROW.out q hq);have o6:=Lib.hid hrow;clear hrow hgr)
     go_roundw
     case rel=>(first | exact⟨j+1,_,_,by omega,by rw[← Nat.add_assoc,ET.out],by go_num,Lib.hid (by rw[← Nat.add_assoc,ET.out];exact o6.out),o4⟩ | ((repeat apply Exists.intro);exact⟨⟨j+1,_,_,by omega,by rw[← Nat.add_assoc,ET.out],by go_num,Lib.hid (by rw[← Nat.add_assoc,ET.out];exact o6.out),o4⟩,rfl⟩))
     case measure=>simp[intOf];omega
    ·obtain rfl:j=8:=by omega
     rw[show 8*k+8=8*(k+1) by omega] at ROW ⊢
     go_wp2_with (fail)
     go_roundw
     case rel=>(first | exact⟨k+1,_,_,by omega,rfl,by go_num,ROW,HB⟩ | ((repeat apply Exists.intro);exact⟨⟨k+1,_,_,by omega,rfl,by go_num,ROW,HB⟩,rfl⟩))
     case measure=>simp[intOf];omega
  ·obtain rfl:k=2:=by omega
   go_wp2_with (fail)
   go_ret
   exact⟨_,rfl,ROW.out,HB.out⟩
end Go.Proofs.YtbilamnnneddmaaGreatDoor
namespace Go.Proofs.YtbilamnnneddmaaGreatDoor
set_option linter.unusedVariables false
set_option maxRecDepth 2000
set_option linter.unusedSimpArgs false
open Go.RowKit
def fillF (f:Nat→Int) (n:Nat) (j:Nat):Int:=if j<n then f j else 0
attribute [local go_sem] nums_length
end Go.Proofs.YtbilamnnneddmaaGreatDoor
namespace Go.Proofs.YtbilamnnneddmaaGreatDoor
set_option linter.unusedVariables false
set_option maxRecDepth 2000
set_option linter.unusedSimpArgs false
open Go.RowKit
attribute [local go_sem ↓ high] sliced_head sliced_one
def RowR (w:World) (v:Value) (n:Nat) (f:Nat→Int):Prop:=∃ q c,v = .slice q n c∧n≤c∧c≤9223372036854775807∧Byt w q n f
theorem RowR.later {w w':World} {B:Nat} {v:Value} {n:Nat} {f:Nat→Int} (h:RowR w v n f) (hb:Below B w w') (hB:w.heap.size≤B):RowR w' v n f:=by
 obtain⟨q,c,h1,h2,h3,h4⟩:=h
 exact⟨q,c,h1,h2,h3,h4.later (hb.mono hB)⟩
theorem RowR.of {w:World} {base n:Nat} {e:TypeId} {v:Value} {f:Nat→Int} (h:w.ownsRow base e 1 v n (nums .u8 f n)):RowR w v n f:=by
 obtain⟨q,c,rfl,hc⟩:=row_form h
 refine⟨q,c,rfl,hc,?_,(byt_row h).2⟩
 rcases h.2 with ⟨h0,_⟩ | ⟨g,cap,cur,h0,_,_,_,hm,_⟩
 ·cases h0;decide
 ·cases h0;unfold maxLen at hm;omega
def T1 (m k:Nat):Nat:=if k=0 then 0 else m
theorem parts_one {w:World} {S m:Nat} {v:Value} {f:Nat→Int} (h:Own S [v] w) (hr:RowR w v m f):Parts w (some ⟨S,0,none⟩) 1 f (T1 m):=fun k hk=>by
 obtain rfl:k=0:=by omega
 obtain⟨q,c,rfl,h2,h3,h4⟩:=hr
 refine⟨S,0,q,m,c,rfl,h.lt,h.at 0 _ rfl,h2,h3,?_,?_⟩
 ·simp[T1]
 ·simpa[T1] using h4
end Go.Proofs.YtbilamnnneddmaaGreatDoor
