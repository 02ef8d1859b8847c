import Derived.Test.YtbilamnnneddmaaGreatDoorZPEx
import Derived.Lib.Hide
import Derived.Great.BuildSlice
import Derived.Lib.SlBytesConst
import Derived.ArgAppend
import Derived.Laws.OwnMore
import Derived.Deep.Onto
import Derived.Deep.Upon
import Derived.LoopN
import Derived.LoopTactic
import Derived.Deep.WholeRow
import Derived.Laws.MakeOwn
import Derived.Test.YtbilamnnneddmaaGreatDoorZCTx
import Derived.Laws.BitsAllLaws
import Derived.Lib.SliceRun
import Derived.WalkKit
import Derived.Below
import Derived.Deep.RegionHeld3
import Derived.Deep.MidRow
import Derived.WalkLawsBesides
import Derived.Laws.AppendOwn
import Derived.Laws.IdiomCopy
import Derived.Test.YtbilamnnneddmaaGreatDoorProg
import Derived.Deep.DeepCutAuto
import Derived.Deep.QuietTactic
import Derived.Laws.BytesString
import Derived.Shelf.Bytes.SlSmallAll
import Derived.ChangeSlices
import Derived.Lib.SmallJoins
import Derived.OpenShut
import Derived.ProofKit
import Derived.Deep.Strs
import Derived.Deep.Fields
import Derived.ChangeSame
import Derived.Test.YtbilamnnneddmaaGreatDoorZKA
import Derived.Test.YtbilamnnneddmaaGreatDoorZCA
import Derived.Test.YtbilamnnneddmaaGreatDoorZCBx
import Derived.Test.YtbilamnnneddmaaGreatDoorZCG
import Derived.Test.YtbilamnnneddmaaGreatDoorZCHx
import Derived.Test.YtbilamnnneddmaaGreatDoorZCJx
import Derived.Test.YtbilamnnneddmaaGreatDoorZCOx
import Derived.Test.YtbilamnnneddmaaGreatDoorZPCx
import Derived.Test.YtbilamnnneddmaaGreatDoorZPS
namespace Go.Proofs.YtbilamnnneddmaaGreatDoor
set_option linter.unusedVariables false
set_option maxRecDepth 2000
set_option linter.unusedSimpArgs false
open Go.RowKit
theorem has_marked (W:World) (cs:List Value) (T:TypeId) (fz:Nat×Nat):Has W.heap.size 0 cs (W.alloc (.cells cs.toArray T fz)) where
 lt:=by simp
 cell:=fun j v hv=>by
  rw[Nat.zero_add]
  simp only[World.cell?,World.alloc,Array.getElem?_push_size]
  simpa using hv
theorem wpList_conv {ops:Array Oper} {rest:List Oper} {o:Oper} {a:Act} {w:World} {C:Array Value} {n c:Nat} {Q:Exit→Act→World→Prop} (hg:o.guard=none) (x:Operand) (ho:o.op = .convert 47 47 x) (hx:a.eval x = .slice (some ⟨w.heap.size,0,none⟩) n c)
  (h:wpList Tryz.prog ops Q rest (a.put o.dst (.slice (some ⟨w.heap.size,0,none⟩) n c)) (w.alloc (.cells C 5 (C.size,C.size+1)))):wpList Tryz.prog ops Q (o :: rest) a (w.alloc (.cells C 5)) :=
 wpList_plain hg fun K hK=>by
  have kc:=Lib.run_convert_bytes_const (P:=Tryz.prog) w 47 5 C n c Tryz.underlying47 Tryz.underlying5
  unfold Oper.wp execOp
  simp only[ho,hx,Sem.run_bind,kc,Result.andThen_ok]
  exact hK _ _ h
theorem size_byte:(Tryz.prog.info? 5).map (·.size)=some 1:=by kernel_rfl
theorem copy_byt (X o b off dL dC sL sC t ty:Nat) (g:Nat→Int) (W:World) (ht:t=Nat.min sL dL) (hs:Has b off (nums .u8 g t) W) (hd:W.there X o t) :
  (Builtin.copy_ #[47,47] ty #[.slice (some ⟨X,o,none⟩) dL dC,.slice (some ⟨b,off,none⟩) sL sC]).run Tryz.prog W = .ok (goInt t) (W.setCells X o (nums .u8 g t)):=by
 have h:=run_copy_rows (P:=Tryz.prog) (S:=1) W 47 47 ty _ X o dL dC ⟨b,off,none⟩ sL sC (nums .u8 g t) Tryz.underlying47 size_byte (by rw[nums_length,Nat.mul_one,ht])
  (fun j v hv=>by rw[Addr.add_mid];exact hs.cell j v hv) (by rw[nums_length];exact hd) (nums_one _ _ _)
 rw[← ht] at h
 exact h
theorem row_far {w:World} {base size n X:Nat} {e:TypeId} {v:Value} {xs:List Value} (h:w.ownsRow base e size v n xs) (hne:v.ownBlock≠some X) (o:Nat) (vs:List Value):(w.setCells X o vs).ownsRow base e size v n xs:=by
 refine⟨h.1,?_⟩
 rcases h.2 with hn | ⟨g,cap,cur,rfl,hb,hg,rest⟩
 ·exact .inl hn
 ·refine .inr ⟨g,cap,cur,rfl,hb,?_,rest⟩
  rw[World.heap_setCells_other w X o vs (Array.getElem?_eq_some_iff.1 hg).1 (fun e=>hne (by rw[e];rfl))]
  exact hg
theorem row_new {w:World} {base size n X:Nat} {e:TypeId} {v:Value} {xs:List Value} (h:w.ownsRow base e size v n xs) (hX:w.heap.size≤X):v.ownBlock≠some X:=fun he=>by
 have:=(h.lt X he).2
 omega
theorem row_has' {w:World} {base size n g cap:Nat} {e:TypeId} {xs:List Value} (h:w.ownsRow base e size (.slice (some ⟨g,0,none⟩) n cap) n xs):Has g 0 xs w∧base≤g:=by
 rcases h.2 with ⟨h0,_⟩ | ⟨g',cap',cur,hv,hg,hh,h1,h2,h3,h4⟩
 ·cases h0
 ·cases hv
  refine⟨⟨(Array.getElem?_eq_some_iff.1 hh).1,fun j v hj=>?_⟩,hg⟩
  rw[cell_of_row w g (0+j) cur e (0,0) hh,Nat.zero_add]
  rw[← h4] at hj
  rw[List.getElem?_take] at hj
  split at hj
  ·simpa using hj
  ·cases hj
theorem has_take {b o n m:Nat} {k:IntKind} {f:Nat→Int} {W:World} (h:Has b o (nums k f n) W) (hm:m≤n):Has b o (nums k f m) W:=⟨h.lt,fun j v hv=>by
 have hj:j<m:=by have:=(List.getElem?_eq_some_iff.1 hv).1;rwa [nums_length] at this
 rw[nums_at _ _ hj] at hv
 exact h.cell j v ((nums_at _ _ (by omega)).trans hv)⟩
theorem has_drop {b o n m i:Nat} {k:IntKind} {f:Nat→Int} {W:World} (h:Has b o (nums k f n) W) (hm:i+m≤n):Has b (o+i) (nums k (fun j=>f (i+j)) m) W:=⟨h.lt,fun j v hv=>by
 have hj:j<m:=by have:=(List.getElem?_eq_some_iff.1 hv).1;rwa [nums_length] at this
 rw[nums_at _ _ hj] at hv
 rw[Nat.add_assoc]
 exact h.cell (i+j) v ((nums_at _ _ (by omega)).trans hv)⟩
structure But (K:Nat) (w w':World):Prop where
 below:Below K w w'
 heap:∀ b,b<w.heap.size→b≠K→w'.heap[b]?=w.heap[b]?
theorem But.refl (K:Nat) (w:World):But K w w:=⟨Below.refl _ _,fun _ _ _=>rfl⟩
theorem But.trans {K:Nat} {a b c:World} (h:But K a b) (k:But K b c):But K a c:=⟨h.below.trans k.below,fun i hi hn=>(k.heap i (Nat.lt_of_lt_of_le hi h.below.size) hn).trans (h.heap i hi hn)⟩
theorem But.of {K:Nat} {a b:World} (h:Below a.heap.size a b) (hK:K<a.heap.size):But K a b:=⟨h.mono (Nat.le_of_lt hK),fun i hi _=>h.block i hi⟩
theorem But.store {K o:Nat} {a:World} {vs:List Value}:But K a (a.setCells K o vs):=⟨Below.setCells (Below.refl _ _) (Nat.le_refl _) vs o,fun i hi hn=>World.heap_setCells_other a K o vs hi hn⟩
theorem But.drew {K:Nat} {a:World} (hK:K<a.heap.size):But K a a.drew:=But.of (Below.refl _ _).drew hK
theorem Has.but {b o K:Nat} {cs:List Value} {w w':World} (h:Has b o cs w) (hb:But K w w') (hn:b≠K):Has b o cs w' where
 lt:=Nat.lt_of_lt_of_le h.lt hb.below.size
 cell:=fun j v hv=>by rw[World.cell?_of_block (w:=w) (a:=⟨b,o+j,none⟩) (hb.heap b h.lt hn)];exact h.cell j v hv
theorem Own.but {b K:Nat} {cs:List Value} {w w':World} (h:Own b cs w) (hb:But K w w') (hn:b≠K):Own b cs w' where
 lt:=Nat.lt_of_lt_of_le h.lt hb.below.size
 cell:=fun j v hv=>by rw[World.cell?_of_block (w:=w) (a:=⟨b,0+j,none⟩) (hb.heap b h.lt hn)];exact h.cell j v hv
 free:=fun j hj=>by
  rw[World.cell?_of_block (w:=w) (a:=⟨b,0+j,none⟩) (hb.heap b h.lt hn),World.frozen?_of_block (w:=w) (a:=⟨b,0+j,none⟩) (hb.heap b h.lt hn)]
  exact h.free j hj
def BytN (w:World) (q:Option Addr) (n:Nat) (f:Nat→Int) (K:Nat):Prop:=n=0∨∃ b off,q=some ⟨b,off,none⟩∧b≠K∧Has b off (nums .u8 f n) w
theorem BytN.but {w w':World} {q:Option Addr} {n K:Nat} {f:Nat→Int} (h:BytN w q n f K) (hb:But K w w'):BytN w' q n f K:=by
 rcases h with h | ⟨b,off,h1,h2,h3⟩
 ·exact .inl h
 ·exact .inr ⟨b,off,h1,h2,h3.but hb h2⟩
theorem BytN.byt {w:World} {q:Option Addr} {n K:Nat} {f:Nat→Int} (h:BytN w q n f K):Byt w q n f:=by
 rcases h with h | ⟨b,off,h1,_,h3⟩
 ·exact .inl h
 ·exact .inr ⟨b,off,h1,h3⟩
def PartsN (w:World) (p:Option Addr) (np:Nat) (g:Nat→Int) (T:Nat→Nat) (K:Nat):Prop:=∀ k,k<np→∃ D o q m c,p=some ⟨D,o,none⟩∧D≠K∧D<w.heap.size∧w.cell? ⟨D,o+k,none⟩=some (.slice q m c)∧m≤c∧c≤9223372036854775807∧T (k+1)=T k+m∧BytN w q m (fun j=>g (T k+j)) K
theorem PartsN.but {w w':World} {p:Option Addr} {np K:Nat} {g:Nat→Int} {T:Nat→Nat} (h:PartsN w p np g T K) (hb:But K w w'):PartsN w' p np g T K:=fun k hk=>by
 obtain⟨D,o,q,m,c,h1,h2,h3,h4,h5,h6,h7,h8⟩:=h k hk
 exact⟨D,o,q,m,c,h1,h2,Nat.lt_of_lt_of_le h3 hb.below.size,(World.cell?_of_block (w:=w) (a:=⟨D,o+k,none⟩) (hb.heap D h3 h2)).trans h4,h5,h6,h7,h8.but hb⟩
theorem Parts.away {w w':World} {p:Option Addr} {np K:Nat} {g:Nat→Int} {T:Nat→Nat} (h:Parts w p np g T) (hb:Below w.heap.size w w') (hK:w.heap.size≤K):PartsN w' p np g T K:=fun k hk=>by
 obtain⟨D,o,q,m,c,h1,h2,h3,h4,h5,h6,h7⟩:=h k hk
 refine⟨D,o,q,m,c,h1,by omega,Nat.lt_of_lt_of_le h2 hb.size,(hb.cell (p:=⟨D,o+k,none⟩) h2).trans h3,h4,h5,h6,?_⟩
 rcases h7 with h0 | ⟨b,off,e1,e2⟩
 ·exact .inl h0
 ·exact .inr ⟨b,off,e1,by have:=e2.lt;omega,e2.later hb⟩
theorem But.grown {K:Nat} {E a w':World} {row:Option Nat} (h:But K E a) (hg:a.grownBy w' row) (hr:∀ k,row=some k→E.heap.size≤k) (hK:K<E.heap.size):But K E w' :=
 ⟨h.below.grown hg (Nat.le_trans (Nat.le_of_lt hK) h.below.size) (fun k hk=>Nat.le_trans (Nat.le_of_lt hK) (hr k hk)),fun b hb hn=>by
  rw[hg.block b (Nat.lt_of_lt_of_le hb h.below.size) (fun e=>by have:=hr b e.symm;omega)]
  exact h.heap b hb hn⟩
theorem row_but {w w':World} {base s n K:Nat} {e:TypeId} {v:Value} {xs:List Value} (h:w.ownsRow base e s v n xs) (hb:But K w w') (hK:v.ownBlock≠some K):w'.ownsRow base e s v n xs:=by
 refine⟨h.1,?_⟩
 rcases h.2 with h0 | ⟨g,cap,cur,rfl,hg,hh,hr⟩
 ·exact .inl h0
 ·exact .inr ⟨g,cap,cur,rfl,hg,(hb.heap g (Array.getElem?_eq_some_iff.1 hh).1 (fun e=>hK (by simp[Value.ownBlock,e]))).trans hh,hr⟩
theorem BytN.later {w w':World} {q:Option Addr} {n K:Nat} {f:Nat→Int} (h:BytN w q n f K) (hb:Below w.heap.size w w'):BytN w' q n f K:=by
 rcases h with h | ⟨b,off,h1,h2,h3⟩
 ·exact .inl h
 ·exact .inr ⟨b,off,h1,h2,h3.later hb⟩
theorem row_cap_ {w:World} {base size n c:Nat} {e:TypeId} {p:Option Addr} {xs:List Value} (h:w.ownsRow base e size (.slice p n c) n xs):n≤c∧c≤9223372036854775807:=by
 rcases h.2 with ⟨h0,_⟩ | ⟨g,cap,cur,h0,_,_,h1,h2,_⟩
 ·cases h0;decide
 ·cases h0;unfold maxLen at h2;omega
theorem wpList_append_b {w:World} {ops:Array Oper} {rest:List Oper} {o:Oper} {a:Act} {Q:Exit→Act→World→Prop} (hgd:o.guard=none) (s x:Operand)
  (ho:o.op = .call { callee := .builtin .append,args:=#[s,x],argTypes:=#[47,47] }) (base:Nat) (v:Value) (L:Nat) (xs:List Value) (hs:a.eval s=v) (hown:w.ownsRow base 5 1 v L xs)
  (q:Option Addr) (n c:Nat) (f:Nat→Int) (hx:a.eval x = .slice q n c) (hby:Byt w q n f) (h63:L+n≤140737488355328) (hbase:base≤w.heap.size)
  (h:∀ v' w',w'.ownsRow base 5 1 v' (L+n) (xs ++ nums .u8 f n)→w.grownBy w' v.ownBlock→wpList Tryz.prog ops Q rest (a.put o.dst v') w'):wpList Tryz.prog ops Q (o :: rest) a w:=by
 obtain⟨i0,hi,hz0,hz1,hz2⟩:=infoB_parts
 rcases hby with h0 | ⟨b,off,rfl,hb⟩
 ·subst h0
  refine wpList_append_zero hgd s x 47 ho Tryz.underlying47 hi hs hown q c hx (h v w ?_ (World.grownBy.refl w _))
  rw[Nat.add_zero,show nums .u8 f 0=[] from rfl,List.append_nil]
  exact hown
 ·exact wpList_append_own _ hgd s x 47 ho base 5 i0 (.int .u8 0) 1 1 Tryz.underlying47 hi hz0 hz1 hz2 rfl (by decide) v L xs hs hown ⟨b,off,none⟩ n c (nums .u8 f n) hx (by rw[nums_length,Nat.mul_one]) (fun j u hj=>by rw[Addr.add_mid];exact hb.cell j u hj) (nums_one _ _ _) (by unfold maxLen;omega) (by omega) hbase (fun v' w' h1 h2 _=>h v' w' h1 h2)
end Go.Proofs.YtbilamnnneddmaaGreatDoor
namespace Go.Proofs.YtbilamnnneddmaaGreatDoor
set_option linter.unusedVariables false
set_option maxRecDepth 2000
set_option linter.unusedSimpArgs false
open Go.RowKit
def pw (W:Nat):Int:=(256:Int) ^ W
theorem pw_succ (W:Nat):pw (W+1)=256*pw W:=by unfold pw;rw[Int.pow_succ];exact Int.mul_comm _ _
theorem pw_zero:pw 0=1:=rfl
theorem pw_pos (W:Nat):0<pw W:=by unfold pw;exact Int.pow_pos (by decide)
theorem pw_two (i:Nat):pw i=(2:Int) ^ (8*i):=by
 unfold pw
 rw[Int.pow_mul]
 rfl
def dg (z:Int) (i:Nat):Int:=z/pw i%256
theorem in_dg (z:Int) (i:Nat):inB (dg z i):=by unfold inB dg;omega
def outF (f:Nat→Int) (m W:Nat) (g:Nat→Int) (j:Nat):Int:=if j<m then f j else dg (g ((j - m)/W)) ((j - m)%W)
theorem outF_head (f:Nat→Int) (m W:Nat) (g:Nat→Int) {j:Nat} (h:j<m):outF f m W g j=f j:=by unfold outF;rw[if_pos h]
theorem outF_dg (f:Nat→Int) (m W:Nat) (g:Nat→Int) (k i:Nat) (h:i<W):outF f m W g (m+W*k+i)=dg (g k) i:=by
 unfold outF
 have e:m+W*k+i - m=i+W*k:=by omega
 rw[if_neg (by omega),e,Nat.add_mul_div_left _ _ (by omega),Nat.div_eq_of_lt h,Nat.zero_add,Nat.add_mul_mod_self_left,Nat.mod_eq_of_lt h]
theorem in_outF (f:Nat→Int) (m W:Nat) (g:Nat→Int) (j:Nat) (hf:∀ i,i<m→inB (f i)):inB (outF f m W g j):=by
 unfold outF
 split
 ·exact hf j (by assumption)
 ·exact in_dg _ _
theorem outF_congr (f f':Nat→Int) (m W n:Nat) (g g':Nat→Int) (hf:∀ j,j<m→f j=f' j) (hg:∀ k i,k<n→i<W→dg (g k) i=dg (g' k) i) {j:Nat} (hj:j<m+W*n):outF f m W g j=outF f' m W g' j:=by
 unfold outF
 by_cases h:j<m
 ·rw[if_pos h,if_pos h,hf j h]
 ·rw[if_neg h,if_neg h]
  have hW:0<W:=by
   rcases Nat.eq_zero_or_pos W with h0 | h0
   ·subst h0;omega
   ·exact h0
  exact hg _ _ (Nat.div_lt_of_lt_mul (by omega)) (Nat.mod_lt _ hW)
def allB (p:Nat→Bool):Nat→Bool
 | 0=>true
 | n+1=>allB p n && p n
theorem allB_iff {p:Nat→Bool} {n:Nat}:allB p n=true↔∀ k,k<n→p k=true:=by
 induction n with
 | zero=>simp[allB]
 | succ n ih =>
  simp only[allB,Bool.and_eq_true,ih]
  exact⟨fun h k hk=>(Nat.lt_succ_iff_lt_or_eq.1 hk).elim (h.1 k) (fun e=>e ▸ h.2),fun h=>⟨fun k hk=>h k (by omega),h n (by omega)⟩⟩
theorem allB_not {p:Nat→Bool} {n k:Nat} (hk:k<n) (h:p k=false):allB p n=false:=by
 cases e:allB p n with
 | false=>rfl
 | true=>exact absurd (allB_iff.1 e k hk) (by simp[h])
theorem allB_congr {p q:Nat→Bool} {n:Nat} (h:∀ k,k<n→p k=q k):allB p n=allB q n:=by
 induction n with
 | zero=>rfl
 | succ n ih=>rw[allB,allB,ih (fun k hk=>h k (by omega)),h n (by omega)]
def fitU (W:Nat) (z:Int):Bool:=decide (z<pw W)
def fitS (W:Nat) (z:Int):Bool:=decide (-pw W≤2*z∧2*z<pw W)
def badW (wd:Int):Bool:=decide (wd<1∨8<wd)
def putE (fit:Nat→Int→Bool) (wd:Int) (n:Nat) (g:Nat→Int):Int:=if badW wd then 2 else if allB (fun k=>fit wd.toNat (g k)) n then 0 else 3
def putL (m n:Nat) (wd E:Int):Nat:=if E=0 then m+wd.toNat*n else 0
theorem wide_cases {W:Nat} (h1:1≤W) (h8:W≤8):W=1∨W=2∨W=3∨W=4∨W=5∨W=6∨W=7∨W=8:=by omega
theorem pw_vals:pw 1=256∧pw 2=65536∧pw 3=16777216∧pw 4=4294967296∧pw 5=1099511627776∧pw 6=281474976710656∧pw 7=72057594037927936∧pw 8=18446744073709551616:=by
 refine⟨rfl,rfl,rfl,rfl,rfl,rfl,rfl,rfl⟩
theorem pw_le {W:Nat} (h8:W≤8):pw W≤18446744073709551616:=by
 obtain⟨p1,p2,p3,p4,p5,p6,p7,p8⟩:=pw_vals
 rcases Nat.eq_zero_or_pos W with h | h
 ·subst h;rw[pw_zero];decide
 ·rcases wide_cases h h8 with rfl | rfl | rfl | rfl | rfl | rfl | rfl | rfl
  ·rw[p1];decide
  ·rw[p2];decide
  ·rw[p3];decide
  ·rw[p4];decide
  ·rw[p5];decide
  ·rw[p6];decide
  ·rw[p7];decide
  ·rw[p8];decide
theorem pw_even {W:Nat} (h:1≤W):pw W%2=0:=by
 obtain⟨k,rfl⟩:∃ k,W=k+1:=⟨W - 1,by omega⟩
 rw[pw_succ]
 omega
def leN (f:Nat→Int):Nat→Int
 | 0=>0
 | n+1=>leN f n+pw n*f n
theorem leN_lt (f:Nat→Int) (n:Nat) (h:∀ j,j<n→inB (f j)):0≤leN f n∧leN f n<pw n:=by
 induction n with
 | zero=>simp[leN,pw_zero]
 | succ n ih =>
  have:=ih fun j hj=>h j (by omega)
  have hb:=h n (by omega)
  unfold inB at hb
  rw[leN,pw_succ]
  have hp:=pw_pos n
  constructor
  ·exact Int.add_nonneg this.1 (Int.mul_nonneg (Int.le_of_lt hp) hb.1)
  ·have:pw n*f n≤pw n*255:=Int.mul_le_mul_of_nonneg_left (by omega) (Int.le_of_lt hp)
   omega
theorem leN_congr {f g:Nat→Int} {n:Nat} (h:∀ j,j<n→f j=g j):leN f n=leN g n:=by
 induction n with
 | zero=>rfl
 | succ n ih=>rw[leN,leN,ih (fun j hj=>h j (by omega)),h n (by omega)]
theorem leN_dg (z:Int) (n:Nat):leN (dg z) n=z%pw n:=by
 induction n with
 | zero=>rw[leN,pw_zero];omega
 | succ n ih =>
  rw[leN,ih,dg,pw_succ]
  have hp:=pw_pos n
  have h1:=Int.emod_add_mul_ediv z (pw n)
  have h2:=Int.emod_add_mul_ediv (z/pw n) 256
  have r0:=Int.emod_nonneg z (Int.ne_of_gt hp)
  have r1:=Int.emod_lt_of_pos z hp
  generalize pw n=p at *
  generalize z%p=r at *
  generalize z/p=q at *
  have d0:=Int.emod_nonneg q (show (256:Int)≠0 by decide)
  have d1:=Int.emod_lt_of_pos q (show (0:Int)<256 by decide)
  generalize q%256=d at *
  generalize q/256=e at *
  subst h2 h1
  have e1:r+p*(d+256*e)=(r+p*d)+256*p*e:=by grind
  rw[e1,Int.add_mul_emod_self_left]
  have:0≤p*d:=Int.mul_nonneg (Int.le_of_lt hp) d0
  have:p*d≤p*255:=Int.mul_le_mul_of_nonneg_left (by omega) (Int.le_of_lt hp)
  rw[Int.emod_eq_of_lt (by omega) (by omega)]
def sgn (z:Int) (W:Nat):Int:=if pw W≤2*z then z - pw W else z
theorem sgn_back (z:Int) (W:Nat) (h1:1≤W) (h:fitS W z=true):sgn (z%pw W) W=z:=by
 have hp:=pw_pos W
 have he:=pw_even h1
 simp only[fitS,decide_eq_true_eq] at h
 unfold sgn
 by_cases h0:0≤z
 ·rw[Int.emod_eq_of_lt h0 (by omega),if_neg (by omega)]
 ·have e:z%pw W=z+pw W:=by
   rw[← Int.add_emod_right,Int.emod_eq_of_lt (by omega) (by omega)]
  rw[e,if_pos (by omega)]
  omega
end Go.Proofs.YtbilamnnneddmaaGreatDoor
namespace Go.Proofs.YtbilamnnneddmaaGreatDoor
set_option linter.unusedVariables false
set_option maxRecDepth 2000
set_option linter.unusedSimpArgs false
open Go.RowKit
theorem fitU_shift (W:Nat) (x:Int) (hx:0≤x):(x/2 ^ (8*W) == 0)=fitU W x:=by
 have hp:=pw_pos W
 rw[← pw_two]
 unfold fitU
 by_cases h:x<pw W
 ·rw[Int.ediv_eq_zero_of_lt hx h];simp[h]
 ·have:1≤x/pw W:=(Int.le_ediv_iff_mul_le hp).2 (by omega)
  have e:¬x/pw W=0:=by omega
  simp[h,e]
theorem pw_half (W k:Nat) (h1:1≤W) (ek:8*W - 1=k):pw W=2*2 ^ k:=by
 rw[pw_two,show 8*W=k+1 by omega,Int.pow_succ,Int.mul_comm]
theorem fitS_shift (W k:Nat) (x:Int) (h1:1≤W) (ek:8*W - 1=k):fitS W x=decide (x/2 ^ k=0∨x/2 ^ k = -1):=by
 have hp:(0:Int)<2 ^ k:=Int.pow_pos (by decide)
 have e:=pw_half W k h1 ek
 unfold fitS
 rw[e]
 generalize (2:Int) ^ k=p at *
 have a:=Int.emod_add_mul_ediv x p
 have b:=Int.emod_nonneg x (Int.ne_of_gt hp)
 have c:=Int.emod_lt_of_pos x hp
 by_cases h0:x/p=0
 ·rw[h0] at a ⊢
  simp only[Int.mul_zero] at a
  simp
  omega
 ·by_cases h2:x/p = -1
  ·rw[h2] at a ⊢
   simp
   omega
  ·simp only[h0,h2,or_self,decide_false,decide_eq_false_iff_not]
   intro ⟨l,r⟩
   rcases Int.lt_or_lt_of_ne h0 with h3 | h3
   ·have:p*(x/p)≤p * -2:=Int.mul_le_mul_of_nonneg_left (by omega) (Int.le_of_lt hp)
    omega
   ·have:p*1≤p*(x/p):=Int.mul_le_mul_of_nonneg_left (by omega) (Int.le_of_lt hp)
    omega
theorem FitU_any (W:Nat) (x:Int) (B:Nat) (h1:1≤W) (h8:W≤8) (hx:0≤x) (hx2:x<18446744073709551616) (w:World) (hB:w.cell? ⟨B,0,none⟩=some (.int .i64 W)) :
  Calls Tryz.prog 68 #[.int .u64 x,.pointer (some ⟨B,0,none⟩)] w fun e w'=>e = .returned (.bool (fitU W x))∧w'=w:=by
 have w8:IntKind.i64.wrap (8*(W:Int))=((8*W:Nat):Int):=by rw[IntWalk.i64_in _ (by omega)];omega
 have R:=fitU_shift W x hx
 go_enter Tryz.func68,Tryz.ntmps68
 go_wp2_with (fail)
 go_ret
 exact⟨by rw[← R];rfl,rfl⟩
theorem FitS_any (W:Nat) (x:Int) (B:Nat) (h1:1≤W) (h8:W≤8) (hx : -9223372036854775808≤x) (hx2:x≤9223372036854775807) (w:World) (hB:w.cell? ⟨B,0,none⟩=some (.int .i64 W)) :
  Calls Tryz.prog 148 #[.int .i64 x,.pointer (some ⟨B,0,none⟩)] w fun e w'=>e = .returned (.bool (fitS W x))∧w'=w:=by
 obtain⟨k,ek⟩:∃ k,8*W - 1=k:=⟨_,rfl⟩
 have w8:IntKind.i64.wrap (8*(W:Int))=8*(W:Int):=by rw[IntWalk.i64_in _ (by omega)]
 have w9:IntKind.i64.wrap (8*(W:Int) - 1)=(k:Int):=by rw[IntWalk.i64_in _ (by omega)];omega
 have R:=fitS_shift W k x h1 ek
 by_cases h0:x/2 ^ k=0
 ·go_enter Tryz.func148,Tryz.ntmps148
  go_wp2_with (fail)
  go_ret
  exact⟨by rw[R];simp[h0],rfl⟩
 ·go_enter Tryz.func148,Tryz.ntmps148
  go_wp2_with (fail)
  go_ret
  refine⟨?_,rfl⟩
  rw[R]
  have e:(x/2 ^ k == 0 || x/2 ^ k == -1)=decide (x/2 ^ k=0∨x/2 ^ k = -1):=by
   by_cases a:x/2 ^ k = -1<;>simp[h0,a]
  rw[← e]
  rfl
end Go.Proofs.YtbilamnnneddmaaGreatDoor
namespace Go.Proofs.YtbilamnnneddmaaGreatDoor
set_option linter.unusedVariables false
set_option maxRecDepth 2000
set_option linter.unusedSimpArgs false
open Go.RowKit
attribute [local go_sem] nums_length
def Nm (w:World) (k:IntKind) (q:Option Addr) (n:Nat) (f:Nat→Int):Prop:=n=0∨∃ b off,q=some ⟨b,off,none⟩∧Has b off (nums k f n) w
theorem Nm.later {w w':World} {k:IntKind} {q:Option Addr} {n:Nat} {f:Nat→Int} (h:Nm w k q n f) (hb:Below w.heap.size w w'):Nm w' k q n f:=by
 rcases h with h | ⟨b,off,h1,h2⟩
 ·exact .inl h
 ·exact .inr ⟨b,off,h1,h2.later hb⟩
theorem Nm.at {w:World} {k:IntKind} {q:Option Addr} {n i:Nat} {f:Nat→Int} (h:Nm w k q n f) (hi:i<n):∃ D o,q=some ⟨D,o,none⟩∧D<w.heap.size∧w.cell? ⟨D,o+i,none⟩=some (.int k (f i)):=by
 obtain⟨D,o,h1,h2⟩:=h.resolve_left (by omega)
 exact⟨D,o,h1,h2.lt,h2.at i _ (nums_at _ _ hi)⟩
theorem byt_of_row {w:World} {base n:Nat} {e:TypeId} {q:Option Addr} {m c:Nat} {f:Nat→Int} (h:w.ownsRow base e 1 (.slice q m c) n (nums .u8 f n)):m=n∧Byt w q n f∧m≤c∧c≤9223372036854775807:=by
 obtain⟨h1,h2⟩:=byt_row h
 subst h1
 exact⟨rfl,h2,row_cap_ h⟩
set_option maxHeartbeats 8000000 in
theorem PutU_any (q p:Option Addr) (m c n c2:Nat) (wd:Int) (f g:Nat→Int) (B:Nat) (hg:∀ k,k<n→0≤g k∧g k≤18446744073709551615) (hmc:m≤c) (hc:c≤9223372036854775807) (hnc:n≤c2) (hc2:c2≤9223372036854775807) (hsz:m+8*n≤70368744177664) (w:World) (hB:Has B 0 [.int .i64 wd] w) (hq:Byt w q m f) (hp:Nm w .u64 p n g) :
  Calls Tryz.prog 67 #[.slice q m c,.int .i64 wd,.slice p n c2,.func (.func 68) #[] #[.pointer (some ⟨B,0,none⟩)]] w fun e w'=>∃ v,e = .returned (.tuple #[v,.int .i64 (putE fitU wd n g)])∧w'.ownsRow w.heap.size 5 1 v (putL m n wd (putE fitU wd n g)) (nums .u8 (outF f m wd.toNat g) (putL m n wd (putE fitU wd n g)))∧Below w.heap.size w w':=by
 have HG:=Lib.hid hg;have HMC:=Lib.hid hmc;have HC:=Lib.hid hc;have HNC:=Lib.hid hnc;have HC2:=Lib.hid hc2;have HSZ:=Lib.hid hsz;have HQ:=Lib.hid hq;have HP:=Lib.hid hp;have HB0:=Lib.hid hB
 clear hg hmc hc hnc hc2 hsz hq hp hB
 obtain⟨i0,hi,hz0,hz1,hz2⟩:=infoB_parts
 by_cases hbad:wd<1∨8<wd
 ·have E:putE fitU wd n g=2:=by unfold putE badW;rw[if_pos (by simpa using hbad)]
  have L0:putL m n wd 2=0:=rfl
  rw[E,L0]
  by_cases h1:wd<1
  ·clear hbad E
   go_enter Tryz.func67,Tryz.ntmps67
   go_wp2_with (fail)
   exact bodyPost_ret (v := .tuple #[.slice none 0 0,.int .i64 2]) (by simp[results,Tryz.results67,go_sem]) rfl ⟨_,rfl,World.ownsRow_nil _ _ _ _,Below.refl _ _⟩
  ·have h8:8<wd:=by omega
   clear hbad E
   go_enter Tryz.func67,Tryz.ntmps67
   go_wp2_with (fail)
   exact bodyPost_ret (v := .tuple #[.slice none 0 0,.int .i64 2]) (by simp[results,Tryz.results67,go_sem]) rfl ⟨_,rfl,World.ownsRow_nil _ _ _ _,Below.refl _ _⟩
 ·obtain⟨W,rfl⟩:∃ W:Nat,wd=(W:Int):=⟨wd.toNat,by omega⟩
  have h1:1≤W:=by omega
  have h8:W≤8:=by omega
  have g1:¬((W:Int)<1):=by omega
  have g8:¬(8<(W:Int)):=by omega
  have EE:putE fitU (W:Int) n g=if allB (fun k=>fitU W (g k)) n then 0 else 3:=by unfold putE badW;rw[if_neg (by simpa using hbad),Int.toNat_natCast]
  rw[EE,Int.toNat_natCast]
  obtain⟨E,eE⟩:∃ E,(if allB (fun k=>fitU W (g k)) n then (0:Int) else 3)=E:=⟨_,rfl⟩
  rw[eE]
  have HE:=Lib.hid eE
  have H1:=Lib.hid h1;have H8:=Lib.hid h8
  have kB:=HB0.out.at 0 _ rfl
  rw[Nat.add_zero] at kB
  have KB:=Lib.hid kB
  clear hbad EE h1 h8 kB eE
  go_enter Tryz.func67,Tryz.ntmps67
  go_wp2_with (fail)
  go_loopw [24] (fun iv wr=>∃ (k:Nat),k≤n∧iv = .int .i64 k∧Hid (∀ j,j<k→fitU W (g j)=true)∧w=wr) (fun iv _=>(n - (intOf iv).toNat))
  case atStart=>exact⟨0,Nat.zero_le _,rfl,Lib.hid (fun j hj=>absurd hj (Nat.not_lt_zero j)),rfl⟩
  case round =>
   obtain⟨k,hk,rfl,ALL,rfl⟩:=hrel
   by_cases hlt:k<n
   ·obtain⟨D,o,rfl,hD,hcell⟩:=HP.out.at hlt
    have hki:(k:Int)<(n:Int):=by omega
    have k0:(0:Int)≤(k:Int):=by omega
    have wk:IntKind.i64.wrap ((k:Int)+1)=(k:Int)+1:=IntWalk.i64_in _ (by have:=HNC.out;have:=HC2.out;omega)
    have FT:=Lib.hid (FitU_any W (g k) B H1.out H8.out (HG.out k hlt).1 (by have:=(HG.out k hlt).2;omega) w KB.out)
    have HLT:=Lib.hid hlt
    obtain⟨x,ex⟩:∃ x,g k=x:=⟨_,rfl⟩
    rw[ex] at hcell FT
    have EX:=Lib.hid ex
    clear hlt hk ex
    go_wp2_with (fail)
    go_at_call 68
    refine (FT.out).mono ?_
    rintro e w1 ⟨rfl,hw⟩
    obtain rfl:w=w1:=hw.symm
    cases hft:fitU W x with
    | false =>
     have A0:allB (fun k=>fitU W (g k)) n=false:=allB_not HLT.out (by rw[EX.out];exact hft)
     obtain rfl:E=3:=(by rw[← HE.out,A0];rfl)
     clear A0 HE
     go_wp2_with (fail)
     exact bodyPost_ret (v := .tuple #[.slice none 0 0,.int .i64 3]) (by simp[results,Tryz.results67,go_sem]) rfl ⟨_,rfl,World.ownsRow_nil _ _ _ _,Below.refl _ _⟩
    | true =>
     have ALL2:Hid (∀ j,j<k+1→fitU W (g j)=true):=Lib.hid fun j hj=>(Nat.lt_succ_iff_lt_or_eq.1 hj).elim (ALL.out j) (fun e=>by rw[e,EX.out];exact hft)
     go_wp2_with (fail)
     go_roundw
     case rel=>(first | exact⟨k+1,HLT.out,by go_num,ALL2,(by first | rfl | trivial)⟩ | ((repeat apply Exists.intro);exact⟨⟨k+1,HLT.out,by go_num,ALL2,(by first | rfl | trivial)⟩,rfl⟩))
     case measure=>(have:=HLT.out;simp[intOf];omega)
   ·obtain rfl:k=n:=by omega
    have A1:allB (fun j=>fitU W (g j)) k=true:=allB_iff.2 ALL.out
    obtain rfl:E=0:=(by rw[← HE.out,A1];rfl)
    have PL:putL m k (W:Int) 0=m+W*k:=by simp[putL]
    obtain⟨P,eP⟩:∃ P,W*k=P:=⟨_,rfl⟩
    obtain⟨Q,eQ⟩:∃ Q,m+P=Q:=⟨_,rfl⟩
    have P8:P≤8*k:=by rw[← eP];exact Nat.mul_le_mul_right _ H8.out
    have w1:IntKind.i64.wrap ((W:Int)*(k:Int))=(P:Int):=by rw[show (W:Int)*(k:Int)=((W*k:Nat):Int) by push_cast;rfl,eP];exact IntWalk.i64_in _ (by have:=HSZ.out;omega)
    have w2:IntKind.i64.wrap ((m:Int)+(P:Int))=(Q:Int):=by rw[IntWalk.i64_in _ (by have:=HSZ.out;omega)];omega
    have q0:(0:Int)≤(Q:Int):=by omega
    have Q7:Q≤70368744177664:=by have:=HSZ.out;omega
    obtain⟨W1,hmk,hrow,hgr⟩:=run_make_own (P:=Tryz.prog) w w.heap.size 47 5 i0 (.int .u8 0) 1 Tryz.underlying47 hi hz0 hz1 .i64 .i64 Q (by rw[hz2];omega) (by unfold maxLen;omega) (Nat.le_refl _)
    have hB1:Below w.heap.size w W1:=(Below.refl _ _).grown hgr (Nat.le_refl _) (fun k hk=>nomatch hk)
    have HB1:=Lib.hid hB1
    have ROW1:=Lib.hid hrow
    have BY1:=Lib.hid (HQ.out.later hB1)
    have QP:=Lib.hid (show m+W*k=Q by rw[eP];exact eQ)
    have QB:=Lib.hid Q7
    have HM0:=Lib.hid (show 0+m≤140737488355328 by omega)
    clear hrow hgr hB1 hlt hk eP eQ P8 Q7
    go_wp2_with (at_builtin;refine wpList_append_b rfl _ _ rfl w.heap.size _ 0 [] rfl ROW1.out q m c f rfl BY1.out HM0.out HB1.out.size ?_;intro v' w6 hrow hgr;obtain⟨p',c',rfl,_⟩:=row_form hrow;have o4:=Lib.hid (HB1.out.grown hgr HB1.out.size fun q hq=>row_ge ROW1.out q hq);have o6:=Lib.hid hrow;clear hrow hgr)
    have hrow0:w6.ownsRow w.heap.size 5 1 (.slice p' m c') m (nums .u8 (outF f m W g) m):=by
     have:=o6.out
     rw[Nat.zero_add,List.nil_append,nums_congr .u8 (fun j hj=>(outF_head f m W g hj).symm)] at this
     exact this
    have ROW0:=Lib.hid hrow0
    have PLH:=Lib.hid PL
    clear hrow0 o6 ROW1 BY1 HB1 A1 PL HE
    go_wp2_with (fail)
    go_loopw [12,45] (fun v iv wq=>∃ (l t:Nat) (p3:Option Addr) (c3:Nat),l≤k∧Hid (t=m+W*l)∧v = .slice p3 t c3∧iv = .int .i64 l∧Hid (wq.ownsRow w.heap.size 5 1 (.slice p3 t c3) t (nums .u8 (outF f m W g) t))∧Hid (Below w.heap.size w wq)) (fun _ iv _=>(k - (intOf iv).toNat))
    case atStart=>exact⟨0,m,p',c',Nat.zero_le _,Lib.hid rfl,rfl,rfl,ROW0,o4⟩
    case round =>
     clear ROW0 o4
     obtain⟨l,t,p3,c3,hl,HT,rfl,rfl,ROW,HB⟩:=hrel
     by_cases hlt:l<k
     ·obtain⟨D,o,rfl,hD,hcell⟩:=(HP.out.later HB.out).at hlt
      have hki:(l:Int)<(k:Int):=by omega
      have k0:(0:Int)≤(l:Int):=by omega
      have wk:IntKind.i64.wrap ((l:Int)+1)=(l:Int)+1:=IntWalk.i64_in _ (by have:=HNC.out;have:=HC2.out;omega)
      obtain⟨x,ex⟩:∃ x,g l=x:=⟨_,rfl⟩
      rw[ex] at hcell
      have EX:=Lib.hid ex
      have TB:Hid (t+W≤70368744177664):=Lib.hid (by
       have a1:W*(l+1)≤W*k:=Nat.mul_le_mul_left _ (by omega)
       have a2:=QP.out;have a3:=QB.out;have a4:=HT.out
       rw[Nat.mul_succ] at a1
       omega)
      have HLT:=Lib.hid hlt
      clear hl hlt ex
      go_wp2_with (fail)
      go_loopw [12,50] (fun v jv wq=>∃ (j:Nat) (p3:Option Addr) (c3:Nat),j≤W∧v = .slice p3 (t+j) c3∧jv = .int .i64 j∧Hid (wq.ownsRow w.heap.size 5 1 (.slice p3 (t+j) c3) (t+j) (nums .u8 (outF f m W g) (t+j)))∧Hid (Below w.heap.size w wq)) (fun _ iv _=>(W - (intOf iv).toNat))
      case atStart=>exact⟨0,p3,c3,Nat.zero_le _,by rw[Nat.add_zero],rfl,Lib.hid (by rw[Nat.add_zero];exact ROW.out),HB⟩
      case round =>
       clear ROW HB hcell hD
       obtain⟨j,p4,c4,hj,rfl,rfl,ROW,HB⟩:=hrel
       by_cases hjt:j<W
       ·have hji:(j:Int)<(W:Int):=by omega
        have j0:(0:Int)≤(j:Int):=by omega
        have wj:IntKind.i64.wrap ((j:Int)+1)=(j:Int)+1:=IntWalk.i64_in _ (by have:=H8.out;omega)
        have wj8:IntKind.i64.wrap (8*(j:Int))=((8*j:Nat):Int):=by rw[IntWalk.i64_in _ (by have:=H8.out;omega)];omega
        obtain⟨z,ez⟩:∃ z:Int,x/2 ^ (8*j)%256=z:=⟨_,rfl⟩
        have XS:Hid (nums .u8 (outF f m W g) (t+j) ++ [.int .u8 z]=nums .u8 (outF f m W g) (t+(j+1))):=Lib.hid (nums_append .u8 (outF f m W g) (fun _=>z) (t+j) 1 (fun i hi=>by
         obtain rfl:i=0:=by omega
         rw[Nat.add_zero,HT.out,outF_dg f m W g l j hjt,EX.out,dg,pw_two]
         exact ez))
        have N63:=Lib.hid (show (t+j)+1≤maxLen by have:=TB.out;unfold maxLen;omega)
        have NBY:=Lib.hid (show ((t+j)+1)*1≤140737488355328 by have:=TB.out;omega)
        have HS2:Hid (w.heap.size≤(wr.alloc (.cells #[.int .u8 z] 5)).heap.size):=Lib.hid (Below.al HB.out).size
        have HJ:=Lib.hid hjt
        clear hj hjt
        go_wp2_with (at_builtin;refine wpList_append_own _ rfl _ _ 47 rfl w.heap.size 5 i0 (.int .u8 0) 1 1 Tryz.underlying47 hi hz0 hz1 hz2 rfl (by decide) _ ((t+j)) _ rfl (row_later ROW.out (Below.al (Below.refl _ _))) ⟨wr.heap.size,0,none⟩ 1 1 [.int .u8 z] rfl rfl (Own.newAt (by rfl)).news (by intro v hv;cases hv with | head=>rfl | tail _ h=>nomatch h) N63.out NBY.out HS2.out ?_;intro v' w6 hrow hgr _;obtain⟨p',c',rfl,_⟩:=row_form hrow;rw[XS.out] at hrow;have o4:=Lib.hid ((Below.al HB.out).grown hgr (Below.al HB.out).size fun q hq=>row_ge ROW.out q hq);have o6:=Lib.hid hrow;clear hrow hgr)
        go_roundw
        case rel=>(first | exact⟨j+1,_,_,HJ.out,rfl,by go_num,o6,o4⟩ | ((repeat apply Exists.intro);exact⟨⟨j+1,_,_,HJ.out,rfl,by go_num,o6,o4⟩,rfl⟩))
        case measure=>(have:=HJ.out;simp[intOf];omega)
       ·obtain rfl:j=W:=by omega
        have HT2:Hid (t+j=m+j*(l+1)):=Lib.hid (by rw[HT.out,Nat.mul_succ,Nat.add_assoc])
        go_wp2_with (fail)
        go_roundw
        case rel=>(first | exact⟨l+1,t+j,_,_,HLT.out,HT2,rfl,by go_num,ROW,HB⟩ | ((repeat apply Exists.intro);exact⟨⟨l+1,t+j,_,_,HLT.out,HT2,rfl,by go_num,ROW,HB⟩,rfl⟩))
        case measure=>(have:=HLT.out;simp[intOf];omega)
     ·obtain rfl:l=k:=by omega
      have TT:t=putL m l (W:Int) 0:=by rw[PLH.out];exact HT.out
      go_wp2_with (fail)
      refine bodyPost_ret (v := .tuple #[.slice p3 t c3,.int .i64 0]) (by simp[results,Tryz.results67,go_sem]) rfl ⟨_,rfl,?_,HB.out⟩
      rw[← TT]
      exact ROW.out
set_option maxHeartbeats 8000000 in
theorem PutS_any (q p:Option Addr) (m c n c2:Nat) (wd:Int) (f g:Nat→Int) (B:Nat) (hg:∀ k,k<n → -9223372036854775808≤g k∧g k≤9223372036854775807) (hmc:m≤c) (hc:c≤9223372036854775807) (hnc:n≤c2) (hc2:c2≤9223372036854775807) (hsz:m+8*n≤70368744177664) (w:World) (hB:Has B 0 [.int .i64 wd] w) (hq:Byt w q m f) (hp:Nm w .i64 p n g) :
  Calls Tryz.prog 147 #[.slice q m c,.int .i64 wd,.slice p n c2,.func (.func 148) #[] #[.pointer (some ⟨B,0,none⟩)]] w fun e w'=>∃ v,e = .returned (.tuple #[v,.int .i64 (putE fitS wd n g)])∧w'.ownsRow w.heap.size 5 1 v (putL m n wd (putE fitS wd n g)) (nums .u8 (outF f m wd.toNat g) (putL m n wd (putE fitS wd n g)))∧Below w.heap.size w w':=by
 have HG:=Lib.hid hg;have HMC:=Lib.hid hmc;have HC:=Lib.hid hc;have HNC:=Lib.hid hnc;have HC2:=Lib.hid hc2;have HSZ:=Lib.hid hsz;have HQ:=Lib.hid hq;have HP:=Lib.hid hp;have HB0:=Lib.hid hB
 clear hg hmc hc hnc hc2 hsz hq hp hB
 obtain⟨i0,hi,hz0,hz1,hz2⟩:=infoB_parts
 by_cases hbad:wd<1∨8<wd
 ·have E:putE fitS wd n g=2:=by unfold putE badW;rw[if_pos (by simpa using hbad)]
  have L0:putL m n wd 2=0:=rfl
  rw[E,L0]
  by_cases h1:wd<1
  ·clear hbad E
   go_enter Tryz.func147,Tryz.ntmps147
   go_wp2_with (fail)
   exact bodyPost_ret (v := .tuple #[.slice none 0 0,.int .i64 2]) (by simp[results,Tryz.results147,go_sem]) rfl ⟨_,rfl,World.ownsRow_nil _ _ _ _,Below.refl _ _⟩
  ·have h8:8<wd:=by omega
   clear hbad E
   go_enter Tryz.func147,Tryz.ntmps147
   go_wp2_with (fail)
   exact bodyPost_ret (v := .tuple #[.slice none 0 0,.int .i64 2]) (by simp[results,Tryz.results147,go_sem]) rfl ⟨_,rfl,World.ownsRow_nil _ _ _ _,Below.refl _ _⟩
 ·obtain⟨W,rfl⟩:∃ W:Nat,wd=(W:Int):=⟨wd.toNat,by omega⟩
  have h1:1≤W:=by omega
  have h8:W≤8:=by omega
  have g1:¬((W:Int)<1):=by omega
  have g8:¬(8<(W:Int)):=by omega
  have EE:putE fitS (W:Int) n g=if allB (fun k=>fitS W (g k)) n then 0 else 3:=by unfold putE badW;rw[if_neg (by simpa using hbad),Int.toNat_natCast]
  rw[EE,Int.toNat_natCast]
  obtain⟨E,eE⟩:∃ E,(if allB (fun k=>fitS W (g k)) n then (0:Int) else 3)=E:=⟨_,rfl⟩
  rw[eE]
  have HE:=Lib.hid eE
  have H1:=Lib.hid h1;have H8:=Lib.hid h8
  have kB:=HB0.out.at 0 _ rfl
  rw[Nat.add_zero] at kB
  have KB:=Lib.hid kB
  clear hbad EE h1 h8 kB eE
  go_enter Tryz.func147,Tryz.ntmps147
  go_wp2_with (fail)
  go_loopw [24] (fun iv wr=>∃ (k:Nat),k≤n∧iv = .int .i64 k∧Hid (∀ j,j<k→fitS W (g j)=true)∧w=wr) (fun iv _=>(n - (intOf iv).toNat))
  case atStart=>exact⟨0,Nat.zero_le _,rfl,Lib.hid (fun j hj=>absurd hj (Nat.not_lt_zero j)),rfl⟩
  case round =>
   obtain⟨k,hk,rfl,ALL,rfl⟩:=hrel
   by_cases hlt:k<n
   ·obtain⟨D,o,rfl,hD,hcell⟩:=HP.out.at hlt
    have hki:(k:Int)<(n:Int):=by omega
    have k0:(0:Int)≤(k:Int):=by omega
    have wk:IntKind.i64.wrap ((k:Int)+1)=(k:Int)+1:=IntWalk.i64_in _ (by have:=HNC.out;have:=HC2.out;omega)
    have FT:=Lib.hid (FitS_any W (g k) B H1.out H8.out (HG.out k hlt).1 (by have:=(HG.out k hlt).2;omega) w KB.out)
    have HLT:=Lib.hid hlt
    obtain⟨x,ex⟩:∃ x,g k=x:=⟨_,rfl⟩
    rw[ex] at hcell FT
    have EX:=Lib.hid ex
    clear hlt hk ex
    go_wp2_with (fail)
    go_at_call 148
    refine (FT.out).mono ?_
    rintro e w1 ⟨rfl,hw⟩
    obtain rfl:w=w1:=hw.symm
    cases hft:fitS W x with
    | false =>
     have A0:allB (fun k=>fitS W (g k)) n=false:=allB_not HLT.out (by rw[EX.out];exact hft)
     obtain rfl:E=3:=(by rw[← HE.out,A0];rfl)
     clear A0 HE
     go_wp2_with (fail)
     exact bodyPost_ret (v := .tuple #[.slice none 0 0,.int .i64 3]) (by simp[results,Tryz.results147,go_sem]) rfl ⟨_,rfl,World.ownsRow_nil _ _ _ _,Below.refl _ _⟩
    | true =>
     have ALL2:Hid (∀ j,j<k+1→fitS W (g j)=true):=Lib.hid fun j hj=>(Nat.lt_succ_iff_lt_or_eq.1 hj).elim (ALL.out j) (fun e=>by rw[e,EX.out];exact hft)
     go_wp2_with (fail)
     go_roundw
     case rel=>(first | exact⟨k+1,HLT.out,by go_num,ALL2,(by first | rfl | trivial)⟩ | ((repeat apply Exists.intro);exact⟨⟨k+1,HLT.out,by go_num,ALL2,(by first | rfl | trivial)⟩,rfl⟩))
     case measure=>(have:=HLT.out;simp[intOf];omega)
   ·obtain rfl:k=n:=by omega
    have A1:allB (fun j=>fitS W (g j)) k=true:=allB_iff.2 ALL.out
    obtain rfl:E=0:=(by rw[← HE.out,A1];rfl)
    have PL:putL m k (W:Int) 0=m+W*k:=by simp[putL]
    obtain⟨P,eP⟩:∃ P,W*k=P:=⟨_,rfl⟩
    obtain⟨Q,eQ⟩:∃ Q,m+P=Q:=⟨_,rfl⟩
    have P8:P≤8*k:=by rw[← eP];exact Nat.mul_le_mul_right _ H8.out
    have w1:IntKind.i64.wrap ((W:Int)*(k:Int))=(P:Int):=by rw[show (W:Int)*(k:Int)=((W*k:Nat):Int) by push_cast;rfl,eP];exact IntWalk.i64_in _ (by have:=HSZ.out;omega)
    have w2:IntKind.i64.wrap ((m:Int)+(P:Int))=(Q:Int):=by rw[IntWalk.i64_in _ (by have:=HSZ.out;omega)];omega
    have q0:(0:Int)≤(Q:Int):=by omega
    have Q7:Q≤70368744177664:=by have:=HSZ.out;omega
    obtain⟨W1,hmk,hrow,hgr⟩:=run_make_own (P:=Tryz.prog) w w.heap.size 47 5 i0 (.int .u8 0) 1 Tryz.underlying47 hi hz0 hz1 .i64 .i64 Q (by rw[hz2];omega) (by unfold maxLen;omega) (Nat.le_refl _)
    have hB1:Below w.heap.size w W1:=(Below.refl _ _).grown hgr (Nat.le_refl _) (fun k hk=>nomatch hk)
    have HB1:=Lib.hid hB1
    have ROW1:=Lib.hid hrow
    have BY1:=Lib.hid (HQ.out.later hB1)
    have QP:=Lib.hid (show m+W*k=Q by rw[eP];exact eQ)
    have QB:=Lib.hid Q7
    have HM0:=Lib.hid (show 0+m≤140737488355328 by omega)
    clear hrow hgr hB1 hlt hk eP eQ P8 Q7
    go_wp2_with (at_builtin;refine wpList_append_b rfl _ _ rfl w.heap.size _ 0 [] rfl ROW1.out q m c f rfl BY1.out HM0.out HB1.out.size ?_;intro v' w6 hrow hgr;obtain⟨p',c',rfl,_⟩:=row_form hrow;have o4:=Lib.hid (HB1.out.grown hgr HB1.out.size fun q hq=>row_ge ROW1.out q hq);have o6:=Lib.hid hrow;clear hrow hgr)
    have hrow0:w6.ownsRow w.heap.size 5 1 (.slice p' m c') m (nums .u8 (outF f m W g) m):=by
     have:=o6.out
     rw[Nat.zero_add,List.nil_append,nums_congr .u8 (fun j hj=>(outF_head f m W g hj).symm)] at this
     exact this
    have ROW0:=Lib.hid hrow0
    have PLH:=Lib.hid PL
    clear hrow0 o6 ROW1 BY1 HB1 A1 PL HE
    go_wp2_with (fail)
    go_loopw [12,45] (fun v iv wq=>∃ (l t:Nat) (p3:Option Addr) (c3:Nat),l≤k∧Hid (t=m+W*l)∧v = .slice p3 t c3∧iv = .int .i64 l∧Hid (wq.ownsRow w.heap.size 5 1 (.slice p3 t c3) t (nums .u8 (outF f m W g) t))∧Hid (Below w.heap.size w wq)) (fun _ iv _=>(k - (intOf iv).toNat))
    case atStart=>exact⟨0,m,p',c',Nat.zero_le _,Lib.hid rfl,rfl,rfl,ROW0,o4⟩
    case round =>
     clear ROW0 o4
     obtain⟨l,t,p3,c3,hl,HT,rfl,rfl,ROW,HB⟩:=hrel
     by_cases hlt:l<k
     ·obtain⟨D,o,rfl,hD,hcell⟩:=(HP.out.later HB.out).at hlt
      have hki:(l:Int)<(k:Int):=by omega
      have k0:(0:Int)≤(l:Int):=by omega
      have wk:IntKind.i64.wrap ((l:Int)+1)=(l:Int)+1:=IntWalk.i64_in _ (by have:=HNC.out;have:=HC2.out;omega)
      obtain⟨x,ex⟩:∃ x,g l=x:=⟨_,rfl⟩
      rw[ex] at hcell
      have EX:=Lib.hid ex
      have TB:Hid (t+W≤70368744177664):=Lib.hid (by
       have a1:W*(l+1)≤W*k:=Nat.mul_le_mul_left _ (by omega)
       have a2:=QP.out;have a3:=QB.out;have a4:=HT.out
       rw[Nat.mul_succ] at a1
       omega)
      have HLT:=Lib.hid hlt
      clear hl hlt ex
      go_wp2_with (fail)
      go_loopw [12,50] (fun v jv wq=>∃ (j:Nat) (p3:Option Addr) (c3:Nat),j≤W∧v = .slice p3 (t+j) c3∧jv = .int .i64 j∧Hid (wq.ownsRow w.heap.size 5 1 (.slice p3 (t+j) c3) (t+j) (nums .u8 (outF f m W g) (t+j)))∧Hid (Below w.heap.size w wq)) (fun _ iv _=>(W - (intOf iv).toNat))
      case atStart=>exact⟨0,p3,c3,Nat.zero_le _,by rw[Nat.add_zero],rfl,Lib.hid (by rw[Nat.add_zero];exact ROW.out),HB⟩
      case round =>
       clear ROW HB hcell hD
       obtain⟨j,p4,c4,hj,rfl,rfl,ROW,HB⟩:=hrel
       by_cases hjt:j<W
       ·have hji:(j:Int)<(W:Int):=by omega
        have j0:(0:Int)≤(j:Int):=by omega
        have wj:IntKind.i64.wrap ((j:Int)+1)=(j:Int)+1:=IntWalk.i64_in _ (by have:=H8.out;omega)
        have wj8:IntKind.i64.wrap (8*(j:Int))=((8*j:Nat):Int):=by rw[IntWalk.i64_in _ (by have:=H8.out;omega)];omega
        obtain⟨z,ez⟩:∃ z:Int,x/2 ^ (8*j)%256=z:=⟨_,rfl⟩
        have XS:Hid (nums .u8 (outF f m W g) (t+j) ++ [.int .u8 z]=nums .u8 (outF f m W g) (t+(j+1))):=Lib.hid (nums_append .u8 (outF f m W g) (fun _=>z) (t+j) 1 (fun i hi=>by
         obtain rfl:i=0:=by omega
         rw[Nat.add_zero,HT.out,outF_dg f m W g l j hjt,EX.out,dg,pw_two]
         exact ez))
        have N63:=Lib.hid (show (t+j)+1≤maxLen by have:=TB.out;unfold maxLen;omega)
        have NBY:=Lib.hid (show ((t+j)+1)*1≤140737488355328 by have:=TB.out;omega)
        have HS2:Hid (w.heap.size≤(wr.alloc (.cells #[.int .u8 z] 5)).heap.size):=Lib.hid (Below.al HB.out).size
        have HJ:=Lib.hid hjt
        clear hj hjt
        go_wp2_with (at_builtin;refine wpList_append_own _ rfl _ _ 47 rfl w.heap.size 5 i0 (.int .u8 0) 1 1 Tryz.underlying47 hi hz0 hz1 hz2 rfl (by decide) _ ((t+j)) _ rfl (row_later ROW.out (Below.al (Below.refl _ _))) ⟨wr.heap.size,0,none⟩ 1 1 [.int .u8 z] rfl rfl (Own.newAt (by rfl)).news (by intro v hv;cases hv with | head=>rfl | tail _ h=>nomatch h) N63.out NBY.out HS2.out ?_;intro v' w6 hrow hgr _;obtain⟨p',c',rfl,_⟩:=row_form hrow;rw[XS.out] at hrow;have o4:=Lib.hid ((Below.al HB.out).grown hgr (Below.al HB.out).size fun q hq=>row_ge ROW.out q hq);have o6:=Lib.hid hrow;clear hrow hgr)
        go_roundw
        case rel=>(first | exact⟨j+1,_,_,HJ.out,rfl,by go_num,o6,o4⟩ | ((repeat apply Exists.intro);exact⟨⟨j+1,_,_,HJ.out,rfl,by go_num,o6,o4⟩,rfl⟩))
        case measure=>(have:=HJ.out;simp[intOf];omega)
       ·obtain rfl:j=W:=by omega
        have HT2:Hid (t+j=m+j*(l+1)):=Lib.hid (by rw[HT.out,Nat.mul_succ,Nat.add_assoc])
        go_wp2_with (fail)
        go_roundw
        case rel=>(first | exact⟨l+1,t+j,_,_,HLT.out,HT2,rfl,by go_num,ROW,HB⟩ | ((repeat apply Exists.intro);exact⟨⟨l+1,t+j,_,_,HLT.out,HT2,rfl,by go_num,ROW,HB⟩,rfl⟩))
        case measure=>(have:=HLT.out;simp[intOf];omega)
     ·obtain rfl:l=k:=by omega
      have TT:t=putL m l (W:Int) 0:=by rw[PLH.out];exact HT.out
      go_wp2_with (fail)
      refine bodyPost_ret (v := .tuple #[.slice p3 t c3,.int .i64 0]) (by simp[results,Tryz.results147,go_sem]) rfl ⟨_,rfl,?_,HB.out⟩
      rw[← TT]
      exact ROW.out
end Go.Proofs.YtbilamnnneddmaaGreatDoor
namespace Go.Proofs.YtbilamnnneddmaaGreatDoor
set_option linter.unusedVariables false
set_option maxRecDepth 2000
set_option linter.unusedSimpArgs false
open Go.RowKit
theorem row_base {w:World} {base b2 size n:Nat} {e:TypeId} {v:Value} {xs:List Value} (h:w.ownsRow base e size v n xs) (hb:b2≤base):w.ownsRow b2 e size v n xs:=by
 refine⟨h.1,?_⟩
 rcases h.2 with h0 | ⟨g,cap,cur,hv,hg,r⟩
 ·exact .inl h0
 ·exact .inr ⟨g,cap,cur,hv,Nat.le_trans hb hg,r⟩
set_option maxHeartbeats 4000000 in
theorem Put_any (q p:Option Addr) (m c n c2:Nat) (wd:Int) (f g:Nat→Int) (hg:∀ k,k<n→0≤g k∧g k≤18446744073709551615) (hmc:m≤c) (hc:c≤9223372036854775807) (hnc:n≤c2) (hc2:c2≤9223372036854775807) (hsz:m+8*n≤70368744177664) (w:World) (hq:Byt w q m f) (hp:Nm w .u64 p n g) :
  Calls Tryz.prog 36 #[.slice q m c,.int .i64 wd,.slice p n c2] w fun e w'=>∃ v,e = .returned (.tuple #[v,.int .i64 (putE fitU wd n g)])∧w'.ownsRow w.heap.size 5 1 v (putL m n wd (putE fitU wd n g)) (nums .u8 (outF f m wd.toNat g) (putL m n wd (putE fitU wd n g)))∧Below w.heap.size w w':=by
 have PU:=Lib.hid (fun B w hB hq hp=>PutU_any q p m c n c2 wd f g B hg hmc hc hnc hc2 hsz w hB hq hp)
 have HQ:=Lib.hid hq;have HP:=Lib.hid hp
 clear hg hmc hc hnc hc2 hsz hq hp
 have hmf:∀ (fn:Fn) (first cap:Array Value) (w:World),(Instr.makeFunc fn first cap).run Tryz.prog w = .ok (.func fn first cap) w:=fun _ _ _ _=>rfl
 generalize putE fitU wd n g=E at *
 generalize putL m n wd E=L at *
 go_enter Tryz.func36,Tryz.ntmps36
 go_wp2_with (fail)
 go_at_call 67
 have hA:Below w.heap.size w (w.alloc (.cells #[.int .i64 wd] 3)):=Below.al (Below.refl _ _)
 refine (PU.out w.heap.size _ ((Own.newAt rfl:Own w.heap.size #[.int .i64 wd].toList (w.alloc (.cells #[.int .i64 wd] 3))).has) (HQ.out.later hA) (HP.out.later hA)).mono ?_
 rintro e w1 ⟨v,rfl,hrow,hb⟩
 have hB:=Below.go hA hb
 have ROW:=Lib.hid hrow
 have HB:=Lib.hid hB
 clear hrow hb hB hA PU
 go_wp2_with (fail)
 exact bodyPost_ret (v := .tuple #[v,.int .i64 E]) (by simp[results,Tryz.results36,go_sem]) rfl ⟨v,rfl,row_base ROW.out (by simp),HB.out⟩
set_option maxHeartbeats 4000000 in
theorem Signed_any (q p:Option Addr) (m c n c2:Nat) (wd:Int) (f g:Nat→Int) (hg:∀ k,k<n → -9223372036854775808≤g k∧g k≤9223372036854775807) (hmc:m≤c) (hc:c≤9223372036854775807) (hnc:n≤c2) (hc2:c2≤9223372036854775807) (hsz:m+8*n≤70368744177664) (w:World) (hq:Byt w q m f) (hp:Nm w .i64 p n g) :
  Calls Tryz.prog 122 #[.slice q m c,.int .i64 wd,.slice p n c2] w fun e w'=>∃ v,e = .returned (.tuple #[v,.int .i64 (putE fitS wd n g)])∧w'.ownsRow w.heap.size 5 1 v (putL m n wd (putE fitS wd n g)) (nums .u8 (outF f m wd.toNat g) (putL m n wd (putE fitS wd n g)))∧Below w.heap.size w w':=by
 have PU:=Lib.hid (fun B w hB hq hp=>PutS_any q p m c n c2 wd f g B hg hmc hc hnc hc2 hsz w hB hq hp)
 have HQ:=Lib.hid hq;have HP:=Lib.hid hp
 clear hg hmc hc hnc hc2 hsz hq hp
 have hmf:∀ (fn:Fn) (first cap:Array Value) (w:World),(Instr.makeFunc fn first cap).run Tryz.prog w = .ok (.func fn first cap) w:=fun _ _ _ _=>rfl
 generalize putE fitS wd n g=E at *
 generalize putL m n wd E=L at *
 go_enter Tryz.func122,Tryz.ntmps122
 go_wp2_with (fail)
 go_at_call 147
 have hA:Below w.heap.size w (w.alloc (.cells #[.int .i64 wd] 3)):=Below.al (Below.refl _ _)
 refine (PU.out w.heap.size _ ((Own.newAt rfl:Own w.heap.size #[.int .i64 wd].toList (w.alloc (.cells #[.int .i64 wd] 3))).has) (HQ.out.later hA) (HP.out.later hA)).mono ?_
 rintro e w1 ⟨v,rfl,hrow,hb⟩
 have hB:=Below.go hA hb
 have ROW:=Lib.hid hrow
 have HB:=Lib.hid hB
 clear hrow hb hB hA PU
 go_wp2_with (fail)
 exact bodyPost_ret (v := .tuple #[v,.int .i64 E]) (by simp[results,Tryz.results122,go_sem]) rfl ⟨v,rfl,row_base ROW.out (by simp),HB.out⟩
end Go.Proofs.YtbilamnnneddmaaGreatDoor
namespace Go.Proofs.YtbilamnnneddmaaGreatDoor
set_option linter.unusedVariables false
set_option maxRecDepth 2000
set_option linter.unusedSimpArgs false
open Go.RowKit
theorem byt_eq {w:World} {q:Option Addr} {n:Nat} {f g:Nat→Int} (h:Byt w q n f) (e:∀ j,j<n→f j=g j):Byt w q n g:=by
 rcases h with h | ⟨b,off,h1,h2⟩
 ·exact .inl h
 ·exact .inr ⟨b,off,h1,by rw[← nums_congr .u8 e];exact h2⟩
theorem nm_new {w:World} {k:IntKind} {n:Nat} {f:Nat→Int} {T:TypeId} {cs:Array Value} (h:cs.toList=nums k f n):Nm (w.alloc (.cells cs T)) k (some ⟨w.heap.size,0,none⟩) n f :=
 .inr ⟨w.heap.size,0,rfl,by rw[← h];exact (Own.newAt rfl).has⟩
end Go.Proofs.YtbilamnnneddmaaGreatDoor
namespace Go.Proofs.YtbilamnnneddmaaGreatDoor
set_option linter.unusedVariables false
set_option maxRecDepth 2000
set_option linter.unusedSimpArgs false
open Go.RowKit
attribute [local go_sem] nums_length
attribute [local go_sem ↓ high] sliced_head sliced_one
def leftN (N at_:Nat) (er:Int):Nat:=if er=0 then N - at_ else 0
def BytD (w:World) (q:Option Addr) (n:Nat) (f:Nat→Int) (K D:Nat):Prop:=n=0∨∃ off,q=some ⟨D,off,none⟩∧D≠K∧Has D off (nums .u8 f n) w
theorem BytD.later {w w':World} {q:Option Addr} {n K D:Nat} {f:Nat→Int} (h:BytD w q n f K D) (hb:Below w.heap.size w w'):BytD w' q n f K D:=by
 rcases h with h | ⟨off,h1,h2,h3⟩
 ·exact .inl h
 ·exact .inr ⟨off,h1,h2,h3.later hb⟩
theorem BytD.but {w w':World} {q:Option Addr} {n K D:Nat} {f:Nat→Int} (h:BytD w q n f K D) (hb:But K w w'):BytD w' q n f K D:=by
 rcases h with h | ⟨off,h1,h2,h3⟩
 ·exact .inl h
 ·exact .inr ⟨off,h1,h2,h3.but hb h2⟩
theorem BytD.far {w w':World} {q:Option Addr} {n K D S:Nat} {f:Nat→Int} (h:BytD w q n f K D) (hb:But S w w') (hn:D≠S):BytD w' q n f K D:=by
 rcases h with h | ⟨off,h1,h2,h3⟩
 ·exact .inl h
 ·exact .inr ⟨off,h1,h2,h3.but hb hn⟩
theorem BytD.byt {w:World} {q:Option Addr} {n K D:Nat} {f:Nat→Int} (h:BytD w q n f K D):Byt w q n f:=by
 rcases h with h | ⟨off,h1,_,h3⟩
 ·exact .inl h
 ·exact .inr ⟨D,off,h1,h3⟩
theorem bytD_drop {w:World} {p:Option Addr} {L l c K D:Nat} {f:Nat→Int} (h:BytD w p L f K D) (hl:l≤L) (hc:L≤c):BytD w (slq p l c) (L - l) (fun j=>f (l+j)) K D:=by
 by_cases h0:L - l=0
 ·exact .inl h0
 ·obtain⟨off,rfl,hk,hb⟩:=h.resolve_left (by omega)
  refine .inr ⟨off+l,?_,hk,?_⟩
  ·unfold slq
   rw[if_neg (by omega)]
   simp[Addr.add]
  ·exact has_drop hb (by omega)
theorem bytD_take {w:World} {p:Option Addr} {L l K D:Nat} {f:Nat→Int} (h:BytD w p L f K D) (hl:l≤L):BytD w p l f K D:=by
 by_cases h0:l=0
 ·exact .inl h0
 ·obtain⟨off,rfl,hk,hb⟩:=h.resolve_left (by omega)
  exact .inr ⟨off,rfl,hk,has_take hb hl⟩
structure Rd (w:World) (K D:Nat) (F:Nat→Int) (N at_:Nat) (er:Int):Prop where
 ex:∃ p c,Own K [.slice p (leftN N at_ er) c,.int .i64 er,.bool true] w∧BytD w p (leftN N at_ er) (fun j=>F (at_+j)) K D∧leftN N at_ er≤c∧c≤9223372036854775807
theorem Rd.lt {w:World} {K D:Nat} {F:Nat→Int} {N at_:Nat} {er:Int} (h:Rd w K D F N at_ er):K<w.heap.size:=by
 obtain⟨p,c,h1,_⟩:=h.ex
 exact h1.lt
theorem Rd.later {w w':World} {K D:Nat} {F:Nat→Int} {N at_:Nat} {er:Int} (h:Rd w K D F N at_ er) (hb:Below w.heap.size w w'):Rd w' K D F N at_ er:=by
 obtain⟨p,c,h1,h2,h3,h4⟩:=h.ex
 exact⟨p,c,h1.later hb,h2.later hb,h3,h4⟩
def nxE (N at_:Nat) (er x lo hi:Int):Int:=if er≠0 then er else if x<lo∨hi<x then 2 else if ((N - at_:Nat):Int)<x then 4 else 0
def nxA (at_:Nat) (x E:Int):Nat:=if E=0 then at_+x.toNat else at_
def nxL (x E:Int):Nat:=if E=0 then x.toNat else 0
def endE (N at_:Nat) (er:Int):Int:=if er≠0 then er else if at_<N then 5 else 0
theorem fail_any (K:Nat) (a b c:Value) (e:Int) (w:World) (hK:Own K [a,b,c] w) :
  Calls Tryz.prog 141 #[.pointer (some ⟨K,0,none⟩),.int .i64 e] w fun r w'=>r = .returned (.tuple #[])∧Own K [.slice none 0 0,.int .i64 e,c] w'∧But K w w':=by
 have f0:=hK.ok 0 (by simp);have f1:=hK.ok 1 (by simp)
 have k0:=hK.at 0 _ rfl;have k1:=hK.at 1 _ rfl
 have Kl:=hK.lt
 have O1:Own K [.slice none 0 0,b,c] (w.setCells K 0 [.slice none 0 0]):=Own.part (o:=0) (vs:=[.slice none 0 0]) hK (by simp)
 have O2:Own K [.slice none 0 0,.int .i64 e,c] ((w.setCells K 0 [.slice none 0 0]).setCells K 1 [.int .i64 e]):=Own.part (o:=1) (vs:=[.int .i64 e]) O1 (by simp)
 have B2:But K w ((w.setCells K 0 [.slice none 0 0]).setCells K 1 [.int .i64 e]):=But.store.trans But.store
 have OO:=Lib.hid O2;have BB:=Lib.hid B2
 clear O1 O2 B2 hK
 go_enter Tryz.func141,Tryz.ntmps141
 go_wp2_with (fail)
 refine bodyPost_end (results_none rfl _ _ _) rfl ?_
 exact⟨rfl,OO.out,BB.out⟩
theorem Err_cell (K:Nat) (er:Int) (w:World) (h1:w.cell? ⟨K,1,none⟩=some (.int .i64 er)) (h2:w.cell? ⟨K,2,none⟩=some (.bool true)) (Kl:K<w.heap.size) :
  Calls Tryz.prog 76 #[.pointer (some ⟨K,0,none⟩)] w fun e w'=>e = .returned (.int .i64 er)∧w'=w:=by
 go_enter Tryz.func76,Tryz.ntmps76
 go_wp2_with (fail)
 go_ret
 exact⟨rfl,rfl⟩
theorem Left_cell (K n c:Nat) (p:Option Addr) (w:World) (h0:w.cell? ⟨K,0,none⟩=some (.slice p n c)) (Kl:K<w.heap.size) :
  Calls Tryz.prog 77 #[.pointer (some ⟨K,0,none⟩)] w fun e w'=>e = .returned (.int .i64 n)∧w'=w:=by
 go_enter Tryz.func77,Tryz.ntmps77
 go_wp2_with (fail)
 go_ret
 exact⟨rfl,rfl⟩
theorem Rd.far {w w':World} {K D S:Nat} {F:Nat→Int} {N at_:Nat} {er:Int} (h:Rd w K D F N at_ er) (hb:But S w w') (hK:K≠S) (hD:D≠S):Rd w' K D F N at_ er:=by
 obtain⟨p,c,h1,h2,h3,h4⟩:=h.ex
 exact⟨p,c,h1.but hb hK,h2.far hb hD,h3,h4⟩
theorem Err_any {K D N at_:Nat} {er:Int} {F:Nat→Int} {w:World} (h:Rd w K D F N at_ er):Calls Tryz.prog 76 #[.pointer (some ⟨K,0,none⟩)] w fun e w'=>e = .returned (.int .i64 er)∧w'=w:=by
 obtain⟨p,c,h1,_⟩:=h.ex
 exact Err_cell K er w (h1.at 1 _ rfl) (h1.at 2 _ rfl) h1.lt
theorem Left_any {K D N at_:Nat} {er:Int} {F:Nat→Int} {w:World} (h:Rd w K D F N at_ er):Calls Tryz.prog 77 #[.pointer (some ⟨K,0,none⟩)] w fun e w'=>e = .returned (.int .i64 (leftN N at_ er))∧w'=w:=by
 obtain⟨p,c,h1,_⟩:=h.ex
 exact Left_cell K _ c p w (h1.at 0 _ rfl) h1.lt
set_option maxHeartbeats 4000000 in
theorem End_any {K D N at_:Nat} {er:Int} {F:Nat→Int} {w:World} (h:Rd w K D F N at_ er):Calls Tryz.prog 71 #[.pointer (some ⟨K,0,none⟩)] w fun e w'=>e = .returned (.int .i64 (endE N at_ er))∧w'=w:=by
 have HE:=Lib.hid (Err_any h);have HL:=Lib.hid (Left_any h)
 clear h
 by_cases h0:er=0
 ·subst h0
  obtain⟨n,en⟩:∃ n,leftN N at_ 0=n:=⟨_,rfl⟩
  rw[en] at HL
  by_cases hn:at_<N
  ·have e1:endE N at_ 0=5:=by simp[endE,hn]
   have n1:(0:Int)<(n:Int):=by simp[leftN] at en;omega
   have n2:0<n:=by omega
   rw[e1]
   go_enter Tryz.func71,Tryz.ntmps71
   go_wp2_with (fail)
   go_at_call 76
   refine (HE.out).mono ?_
   rintro e w1 ⟨rfl,hw⟩
   obtain rfl:w=w1:=hw.symm
   go_wp2_with (fail)
   go_at_call 77
   refine (HL.out).mono ?_
   rintro e w1 ⟨rfl,hw⟩
   obtain rfl:w=w1:=hw.symm
   go_wp2_with (fail)
   go_ret
   exact⟨rfl,rfl⟩
  ·have e1:endE N at_ 0=0:=by simp[endE,hn]
   have n2:n=0:=by simp[leftN] at en;omega
   subst n2
   rw[e1]
   go_enter Tryz.func71,Tryz.ntmps71
   go_wp2_with (fail)
   go_at_call 76
   refine (HE.out).mono ?_
   rintro e w1 ⟨rfl,hw⟩
   obtain rfl:w=w1:=hw.symm
   go_wp2_with (fail)
   go_at_call 77
   refine (HL.out).mono ?_
   rintro e w1 ⟨rfl,hw⟩
   obtain rfl:w=w1:=hw.symm
   go_wp2_with (fail)
   go_ret
   exact⟨rfl,rfl⟩
 ·have e1:endE N at_ er=er:=by simp[endE,h0]
  rw[e1]
  go_enter Tryz.func71,Tryz.ntmps71
  go_wp2_with (fail)
  go_at_call 76
  refine (HE.out).mono ?_
  rintro e w1 ⟨rfl,hw⟩
  obtain rfl:w=w1:=hw.symm
  go_wp2_with (fail)
  go_ret
  exact⟨rfl,rfl⟩
set_option maxHeartbeats 4000000 in
theorem Clone_any (q:Option Addr) (n c:Nat) (f:Nat→Int) (hn:n≤70368744177664) (w:World) (hq:Byt w q n f) :
  Calls Tryz.prog 107 #[.slice q n c] w fun e w'=>∃ v,e = .returned v∧w'.ownsRow w.heap.size 5 1 v n (nums .u8 f n)∧Below w.heap.size w w':=by
 have HQ:=Lib.hid hq;have HN:=Lib.hid (show 0+n≤140737488355328 by omega)
 clear hq hn
 have hcv:=Lib.run_eql_slice_nil (P:=Tryz.prog) w 47 5 q n c 0 0 Tryz.underlying47
 cases q with
 | none =>
  have n0:n=0:=by
   rcases HQ.out with h | ⟨b,off,h,_⟩
   ·exact h
   ·cases h
  subst n0
  go_enter Tryz.func107,Tryz.ntmps107
  go_wp2_with (fail)
  go_ret
  exact⟨_,rfl,World.ownsRow_nil _ _ _ _,Below.refl _ _⟩
 | some a =>
  go_enter Tryz.func107,Tryz.ntmps107
  go_wp2_with (at_builtin;refine wpList_append_b rfl _ _ rfl w.heap.size _ 0 [] rfl (World.ownsRow_lit w #[] 0 (Nat.le_refl _) (by decide) rfl) (some a) n c f rfl (HQ.out.later (Below.al (Below.refl _ _))) HN.out (by simp) ?_;intro v' w6 hrow hgr;obtain⟨p',c',rfl,_⟩:=row_form hrow;rw[Nat.zero_add,List.nil_append] at hrow;have o4:=Lib.hid ((Below.al (o:=(.cells #[] 5)) (Below.refl w.heap.size w)).grown hgr (by simp) (fun q hq=>by cases hq;exact Nat.le_refl _));have o6:=Lib.hid hrow;clear hrow hgr)
  go_ret
  exact⟨_,rfl,o6.out,o4.out⟩
theorem New_any (q:Option Addr) (n c:Nat) (f:Nat→Int) (hn:n≤70368744177664) (w:World) (hq:Byt w q n f) :
  Calls Tryz.prog 69 #[.slice q n c] w fun e w'=>∃ K D,e = .returned (.pointer (some ⟨K,0,none⟩))∧w.heap.size≤K∧w.heap.size≤D∧D<w'.heap.size∧Rd w' K D f n 0 0∧Below w.heap.size w w':=by
 have HC:=Lib.hid (Clone_any q n c f hn w hq)
 clear hn hq
 go_enter Tryz.func69,Tryz.ntmps69
 go_wp2_with (fail)
 go_at_call 107
 refine (HC.out).mono ?_
 rintro e w1 ⟨v,rfl,hrow,hb⟩
 obtain⟨p1,c1,rfl,_⟩:=row_form hrow
 have ROW:=Lib.hid hrow;have HB:=Lib.hid hb
 clear hrow hb HC
 go_wp2_with (fail)
 go_ret
 rcases (byt_row ROW.out).2 with h | ⟨b,off,h1,h2⟩
 ·refine⟨_,w1.heap.size,rfl,HB.out.size,HB.out.size,by simp,⟨p1,c1,?_,?_,?_⟩,Below.al HB.out⟩
  ·exact Own.newAt rfl
  ·exact .inl (by simpa[leftN] using h)
  ·have:=row_cap_ ROW.out
   simpa[leftN] using this
 ·have hb:w.heap.size≤b:=by
   rcases ROW.out.2 with ⟨h0,_⟩ | ⟨g,cap,cur,h0,hg,_⟩
   ·cases h0;cases h1
   ·cases h0;cases h1;exact hg
  have hl:=h2.lt
  refine⟨_,b,rfl,HB.out.size,hb,by simp;omega,⟨p1,c1,?_,?_,?_⟩,Below.al HB.out⟩
  ·exact Own.newAt rfl
  ·exact .inr ⟨off,h1,by omega,by simpa[leftN] using h2.alloc⟩
  ·have:=row_cap_ ROW.out
   simpa[leftN] using this
end Go.Proofs.YtbilamnnneddmaaGreatDoor
namespace Go.Proofs.YtbilamnnneddmaaGreatDoor
set_option linter.unusedVariables false
set_option maxRecDepth 2000
set_option linter.unusedSimpArgs false
open Go.RowKit
attribute [local go_sem] nums_length
attribute [local go_sem ↓ high] sliced_head sliced_one
set_option maxHeartbeats 8000000 in
theorem cut_any {K D N at_:Nat} {er:Int} {F:Nat→Int} {w:World} (x lo hi:Int) (hlo:0≤lo) (h:Rd w K D F N at_ er) :
  Calls Tryz.prog 115 #[.pointer (some ⟨K,0,none⟩),.int .i64 x,.int .i64 lo,.int .i64 hi] w fun e w'=>∃ p' c',e = .returned (.slice p' (nxL x (nxE N at_ er x lo hi)) c')∧nxL x (nxE N at_ er x lo hi)≤c'∧c'≤9223372036854775807∧Byt w' p' (nxL x (nxE N at_ er x lo hi)) (fun j=>F (at_+j))∧Rd w' K D F N (nxA at_ x (nxE N at_ er x lo hi)) (nxE N at_ er x lo hi)∧But K w w':=by
 have ER:=Lib.hid (Err_any h)
 obtain⟨p,c,hK,hby,hlc,hcm⟩:=h.ex
 have RD:=Lib.hid h
 clear h
 by_cases h0:er=0
 ·subst h0
  have eL:leftN N at_ 0=N - at_:=rfl
  rw[eL] at hK hby hlc
  have HK:=Lib.hid hK
  have k0:=hK.at 0 _ rfl;have k1:=hK.at 1 _ rfl;have k2:=hK.at 2 _ rfl
  have f0:=hK.ok 0 (by simp)
  have Kl:=hK.lt
  clear hK eL
  by_cases h1:x<lo
  ·have E:nxE N at_ 0 x lo hi=2:=by simp[nxE,h1]
   rw[E]
   clear hlc hcm hby RD
   go_enter Tryz.func115,Tryz.ntmps115
   go_wp2_with (fail)
   go_at_call 76
   refine (ER.out).mono ?_
   rintro e w1 ⟨rfl,hw⟩
   obtain rfl:w=w1:=hw.symm
   go_wp2_with (fail)
   go_at_call 141
   refine (fail_any K _ _ _ 2 w HK.out).mono ?_
   rintro e w1 ⟨rfl,hO,hb⟩
   have HO:=Lib.hid hO;have HB:=Lib.hid hb
   clear hO hb k0 k1 k2 f0
   go_wp2_with (fail)
   go_ret
   exact⟨none,0,rfl,Nat.le_refl _,by decide,.inl rfl,⟨none,0,HO.out,.inl rfl,Nat.le_refl _,by decide⟩,HB.out⟩
  ·by_cases h2:hi<x
   ·have E:nxE N at_ 0 x lo hi=2:=by simp[nxE,h1,h2]
    rw[E]
    clear hlc hcm hby RD
    go_enter Tryz.func115,Tryz.ntmps115
    go_wp2_with (fail)
    go_at_call 76
    refine (ER.out).mono ?_
    rintro e w1 ⟨rfl,hw⟩
    obtain rfl:w=w1:=hw.symm
    go_wp2_with (fail)
    go_at_call 141
    refine (fail_any K _ _ _ 2 w HK.out).mono ?_
    rintro e w1 ⟨rfl,hO,hb⟩
    have HO:=Lib.hid hO;have HB:=Lib.hid hb
    clear hO hb k0 k1 k2 f0
    go_wp2_with (fail)
    go_ret
    exact⟨none,0,rfl,Nat.le_refl _,by decide,.inl rfl,⟨none,0,HO.out,.inl rfl,Nat.le_refl _,by decide⟩,HB.out⟩
   ·obtain⟨X,rfl⟩:∃ X:Nat,x=(X:Int):=⟨x.toNat,by omega⟩
    by_cases h3:N - at_<X
    ·have h3i:((N - at_:Nat):Int)<(X:Int):=by omega
     have E:nxE N at_ 0 (X:Int) lo hi=4:=by
      unfold nxE
      rw[if_neg (by simp),if_neg (by omega),if_pos h3i]
     rw[E]
     obtain⟨L,eLL⟩:∃ L,N - at_=L:=⟨_,rfl⟩
     rw[eLL] at h3i h3 k0 HK
     clear hlc hcm hby RD eLL
     go_enter Tryz.func115,Tryz.ntmps115
     go_wp2_with (fail)
     go_at_call 76
     refine (ER.out).mono ?_
     rintro e w1 ⟨rfl,hw⟩
     obtain rfl:w=w1:=hw.symm
     go_wp2_with (fail)
     go_at_call 141
     refine (fail_any K _ _ _ 4 w HK.out).mono ?_
     rintro e w1 ⟨rfl,hO,hb⟩
     have HO:=Lib.hid hO;have HB:=Lib.hid hb
     clear hO hb k0 k1 k2 f0
     go_wp2_with (fail)
     go_ret
     exact⟨none,0,rfl,Nat.le_refl _,by decide,.inl rfl,⟨none,0,HO.out,.inl rfl,Nat.le_refl _,by decide⟩,HB.out⟩
    ·have E:nxE N at_ 0 (X:Int) lo hi=0:=by
      unfold nxE
      rw[if_neg (by simp),if_neg (by omega),if_neg (by omega)]
     rw[E]
     have A:nxA at_ (X:Int) 0=at_+X:=by simp[nxA]
     have B:nxL (X:Int) 0=X:=by simp[nxL]
     rw[A,B]
     have RL:leftN N (at_+X) 0=N - at_ - X:=by simp[leftN];omega
     obtain⟨L,eLL⟩:∃ L,N - at_=L:=⟨_,rfl⟩
     rw[eLL] at h3 k0 HK hlc hby RL
     have x0:(0:Int)≤(X:Int):=by omega
     have xl:(X:Int)≤(L:Int):=by omega
     have xc:(X:Int)≤(c:Int):=by omega
     have nl:¬((L:Int)<(X:Int)):=by omega
     have BY:=Lib.hid hby
     have O1:=Lib.hid (show Own K [.slice (slq p X c) (L - X) (c - X),.int .i64 0,.bool true] (w.setCell ⟨K,0,none⟩ (.slice (slq p X c) (L - X) (c - X))) from Own.part (o:=0) (vs:=[.slice (slq p X c) (L - X) (c - X)]) HK.out (by simp))
     have B1:=Lib.hid (show But K w (w.setCell ⟨K,0,none⟩ (.slice (slq p X c) (L - X) (c - X))) from But.store (o:=0) (vs:=[.slice (slq p X c) (L - X) (c - X)]))
     have SQ:=Lib.hid (show slq p X c=if c=X then p else p.map (·.add X) from rfl)
     have RLH:=Lib.hid RL;have XL:=Lib.hid (show X≤L by omega);have LC:=Lib.hid hlc;have CM:=Lib.hid hcm
     clear hlc hcm hby RD eLL RL h3 A B E
     go_enter Tryz.func115,Tryz.ntmps115
     go_wp2_with (fail)
     go_at_call 76
     refine (ER.out).mono ?_
     rintro e w1 ⟨rfl,hw⟩
     obtain rfl:w=w1:=hw.symm
     go_wp2_with (fail)
     all_goals (
      first
      | (have hcx:c=X:=by assumption
         have e1:Value.slice (slq p X c) (L - X) (c - X) = .slice p (L - X) 0:=by rw[SQ.out,if_pos hcx,hcx,Nat.sub_self]
         rw[← e1])
      | (have hcx:¬c=X:=by assumption
         have e1:Value.slice (slq p X c) (L - X) (c - X) = .slice (p.map (·.add X)) (L - X) (c - X):=by rw[SQ.out,if_neg hcx]
         rw[← e1])
      go_ret
      have BX:=BY.out
      refine⟨p,X,rfl,Nat.le_refl _,by have:=CM.out;have:=LC.out;have:=XL.out;omega,((bytD_take BX XL.out).but B1.out).byt,⟨slq p X c,c - X,?_,?_,?_,?_⟩,B1.out⟩
      ·rw[RLH.out];exact O1.out
      ·rw[RLH.out]
       have:=(bytD_drop BX XL.out LC.out).but B1.out
       simpa only[Nat.add_assoc] using this
      ·rw[RLH.out];have:=LC.out;omega
      ·have:=CM.out;omega)
 ·have E:nxE N at_ er x lo hi=er:=by simp[nxE,h0]
  have A:nxA at_ x er=at_:=by simp[nxA,h0]
  have B:nxL x er=0:=by simp[nxL,h0]
  have en:¬er=0:=h0
  rw[E,A,B]
  clear hK hby hlc hcm h0
  go_enter Tryz.func115,Tryz.ntmps115
  go_wp2_with (fail)
  go_at_call 76
  refine (ER.out).mono ?_
  rintro e w1 ⟨rfl,hw⟩
  obtain rfl:w=w1:=hw.symm
  go_wp2_with (fail)
  go_ret
  exact⟨none,0,rfl,Nat.le_refl _,by decide,.inl rfl,RD.out,But.refl _ _⟩
end Go.Proofs.YtbilamnnneddmaaGreatDoor
namespace Go.Proofs.YtbilamnnneddmaaGreatDoor
set_option linter.unusedVariables false
set_option maxRecDepth 2000
set_option linter.unusedSimpArgs false
open Go.RowKit
attribute [local go_sem] nums_length
theorem or_step (A b:Int) (i:Nat) (hi:i<8) (h0:0≤A) (h1:A<pw i) (hb:inB b):bits .or .u64 A (IntKind.u64.wrap (b*pw i))=A+pw i*b:=by
 unfold inB at hb
 have hp:=pw_pos i
 have hl:b*pw i<18446744073709551616:=by
  have e:pw (i+1)≤18446744073709551616:=pw_le (by omega)
  rw[pw_succ] at e
  have:b*pw i≤255*pw i:=Int.mul_le_mul_of_nonneg_right (by omega) (Int.le_of_lt hp)
  omega
 have h2:0≤b*pw i:=Int.mul_nonneg hb.1 (Int.le_of_lt hp)
 rw[IntWalk.u64_in _ (by omega)]
 obtain⟨a,rfl⟩:=Int.eq_ofNat_of_zero_le h0
 obtain⟨c,rfl⟩:=Int.eq_ofNat_of_zero_le hb.1
 have ep:pw i=((2 ^ (8*i):Nat):Int):=by rw[pw_two];push_cast;rfl
 have hp2:pw i≤18446744073709551616:=pw_le (by omega)
 rw[ep] at h1 hl h2 hp2 ⊢
 have ha:a<2 ^ (8*i):=by
  have:(a:Int)<((2 ^ (8*i):Nat):Int):=h1
  exact Int.ofNat_lt.1 this
 have e2:(c:Int)*((2 ^ (8*i):Nat):Int)=((c*2 ^ (8*i):Nat):Int):=by push_cast;rfl
 have e3:((2 ^ (8*i):Nat):Int)*(c:Int)=((c*2 ^ (8*i):Nat):Int):=by rw[Int.mul_comm,e2]
 rw[e3]
 rw[e2] at hl h2 ⊢
 have hq:(c*2 ^ (8*i))%2 ^ (8*i)=0:=Nat.mul_mod_left _ _
 have hl2:c*2 ^ (8*i)<18446744073709551616:=Int.ofNat_lt.1 hl
 have ha2:2 ^ (8*i)≤18446744073709551616:=Int.ofNat_le.1 hp2
 generalize hm:c*2 ^ (8*i)=m at *
 have R:=u64_or_nat a m (Nat.lt_of_lt_of_le ha ha2) hl2
 have J:=nat_join (8*i) m a hq ha
 refine R.trans ?_
 rw[Nat.or_comm,J]
 push_cast
 exact Int.add_comm _ _
set_option maxHeartbeats 4000000 in
theorem number_any (q:Option Addr) (n c:Nat) (f:Nat→Int) (hn:n≤8) (hf:∀ j,j<n→inB (f j)) (w:World) (hq:Byt w q n f) :
  Calls Tryz.prog 133 #[.slice q n c] w fun e w'=>e = .returned (.int .u64 (leN f n))∧w'=w:=by
 have HQ:=Lib.hid hq;have HF:=Lib.hid hf;have HN:=Lib.hid hn
 clear hq hf hn
 go_enter Tryz.func133,Tryz.ntmps133
 go_wp2_with (fail)
 go_loopw [3,8] (fun av iv wr=>∃ (k:Nat) (A:Int),k≤n∧av = .int .u64 A∧Hid (A=leN f k)∧iv = .int .i64 k∧w=wr) (fun _ iv _=>(n - (intOf iv).toNat))
 case atStart=>exact⟨0,0,Nat.zero_le _,rfl,Lib.hid rfl,rfl,rfl⟩
 case round =>
  obtain⟨k,A,hk,rfl,HA,rfl,rfl⟩:=hrel
  by_cases hlt:k<n
  ·obtain⟨D,o,rfl,hH⟩:=HQ.out.resolve_left (by omega)
   have hcell:w.cell? ⟨D,o+k,none⟩=some (.int .u8 (f k)):=hH.cell k _ (nums_at _ _ hlt)
   have hD:=hH.lt
   have hki:(k:Int)<(n:Int):=by omega
   have k0:(0:Int)≤(k:Int):=by omega
   have wk:IntKind.i64.wrap ((k:Int)+1)=(k:Int)+1:=IntWalk.i64_in _ (by have:=HN.out;omega)
   have w8:IntKind.i64.wrap (8*(k:Int))=((8*k:Nat):Int):=by rw[IntWalk.i64_in _ (by have:=HN.out;omega)];omega
   have k8:(0:Int)≤8*(k:Int):=by omega
   have k64:8*(k:Int)≤64:=by have:=HN.out;omega
   have HLT:=Lib.hid hlt
   have BX:=HF.out k hlt
   obtain⟨x,ex⟩:∃ x,f k=x:=⟨_,rfl⟩
   rw[ex] at hcell BX
   have lt:=leN_lt f k (fun j hj=>HF.out j (by omega))
   rw[← HA.out] at lt
   have st:=or_step A x k (by have:=HN.out;omega) lt.1 lt.2 BX
   obtain⟨z,ez⟩:∃ z,A+pw k*x=z:=⟨_,rfl⟩
   have HZ:Hid (z=leN f (k+1)):=Lib.hid (by rw[leN,← HA.out,ex,ez])
   rw[ez] at st
   have wx:IntKind.u64.wrap x=x:=IntWalk.u64_in _ (by unfold inB at BX;omega)
   have x0:0≤x:=BX.1
   rw[pw_two] at st
   clear hlt hk ex lt ez hH BX HA
   go_wp2_with (fail)
   go_roundw
   case rel=>(first | exact⟨k+1,z,HLT.out,rfl,HZ,by go_num,(by first | rfl | trivial)⟩ | ((repeat apply Exists.intro);exact⟨⟨k+1,z,HLT.out,rfl,HZ,by go_num,(by first | rfl | trivial)⟩,rfl⟩))
   case measure=>(have:=HLT.out;simp[intOf];omega)
  ·obtain rfl:k=n:=by omega
   go_wp2_with (fail)
   go_ret
   exact⟨by rw[← HA.out];rfl,rfl⟩
theorem nxL_le (N at_:Nat) (er x:Int) (h:nxE N at_ er x 1 8=0):er=0∧1≤x∧x≤8∧x≤((N - at_:Nat):Int):=by
 unfold nxE at h
 by_cases h0:er=0
 ·by_cases h1:x<1∨8<x
  ·simp[h0,h1] at h
  ·by_cases h2:((N - at_:Nat):Int)<x
   ·simp[h0,h1,h2] at h
   ·omega
 ·simp[h0] at h
theorem nxL_8 (N at_:Nat) (er x:Int):nxL x (nxE N at_ er x 1 8)≤8:=by
 unfold nxL
 split
 ·rename_i h
  have:=nxL_le N at_ er x h
  omega
 ·omega
theorem nx_in (N at_:Nat) (er x:Int) (F:Nat→Int) (hF:∀ j,j<N→inB (F j)):∀ j,j<nxL x (nxE N at_ er x 1 8)→inB (F (at_+j)):=fun j hj=>by
 unfold nxL at hj
 split at hj
 ·rename_i h
  have:=nxL_le N at_ er x h
  exact hF _ (by omega)
 ·omega
def numF (F:Nat→Int) (at_:Nat) (x E:Int):Int:=leN (fun j=>F (at_+j)) (nxL x E)
set_option maxHeartbeats 4000000 in
theorem Num_any {K D N at_:Nat} {er:Int} {F:Nat→Int} {w:World} (x:Int) (hF:∀ j,j<N→inB (F j)) (h:Rd w K D F N at_ er) :
  Calls Tryz.prog 108 #[.pointer (some ⟨K,0,none⟩),.int .i64 x] w fun e w'=>e = .returned (.int .u64 (numF F at_ x (nxE N at_ er x 1 8)))∧Rd w' K D F N (nxA at_ x (nxE N at_ er x 1 8)) (nxE N at_ er x 1 8)∧But K w w':=by
 have CU:=Lib.hid (cut_any x 1 8 (by decide) h)
 have NB:=Lib.hid (fun q c w hq=>number_any q _ c _ (nxL_8 N at_ er x) (nx_in N at_ er x F hF) w hq)
 unfold numF
 clear h hF
 generalize nxE N at_ er x 1 8=E at *
 generalize nxL x E=L at *
 go_enter Tryz.func108,Tryz.ntmps108
 go_wp2_with (fail)
 go_at_call 115
 refine (CU.out).mono ?_
 rintro e w1 ⟨p,c,rfl,h1,h2,h3,h4,h5⟩
 have HB:=Lib.hid h3;have HR:=Lib.hid h4;have HU:=Lib.hid h5
 clear h1 h2 h3 h4 h5 CU
 go_wp2_with (fail)
 go_at_call 133
 refine (NB.out _ _ _ HB.out).mono ?_
 rintro e w2 ⟨rfl,hw⟩
 obtain rfl:w1=w2:=hw.symm
 go_wp2_with (fail)
 go_ret
 exact⟨rfl,HR.out,HU.out⟩
def intF (F:Nat→Int) (at_:Nat) (x E:Int):Int:=sgn (numF F at_ x E) (nxL x E)
theorem wrap_turn (X:Int) (h0:0≤X) (h1:X<18446744073709551616):IntKind.i64.wrap X=if 9223372036854775808≤X then X - 18446744073709551616 else X:=by
 have e:X%18446744073709551616=X:=Int.emod_eq_of_lt h0 h1
 simp[IntKind.wrap,IntKind.bits,IntKind.signed,e]
theorem shift_back (v:Int) (L m:Nat) (h8:L≤8) (em:64 - 8*L=m) (h0:0≤v) (h1:v<pw L):IntKind.i64.wrap (IntKind.u64.wrap (v*2 ^ m))/2 ^ m=sgn v L:=by
 have hT:(0:Int)<2 ^ m:=Int.pow_pos (by decide)
 have e:pw L*2 ^ m=18446744073709551616:=by
  rw[pw_two,← Int.pow_add,show 8*L+m=64 by omega]
  rfl
 generalize (2:Int) ^ m=T at *
 have hX0:0≤v*T:=Int.mul_nonneg h0 (Int.le_of_lt hT)
 have hX1:v*T<18446744073709551616:=by rw[← e];exact Int.mul_lt_mul_of_pos_right h1 hT
 rw[IntWalk.u64_in _ (by omega),wrap_turn _ hX0 hX1]
 unfold sgn
 by_cases hc:pw L≤2*v
 ·have:pw L*T≤2*v*T:=Int.mul_le_mul_of_nonneg_right hc (Int.le_of_lt hT)
  rw[e,Int.mul_assoc] at this
  rw[if_pos (by omega),if_pos hc,← e,← Int.sub_mul,Int.mul_ediv_cancel _ (by omega)]
 ·have:2*v*T<pw L*T:=Int.mul_lt_mul_of_pos_right (by omega) hT
  rw[e,Int.mul_assoc] at this
  rw[if_neg (by omega),if_neg hc,Int.mul_ediv_cancel _ (by omega)]
set_option maxHeartbeats 4000000 in
theorem Int_any {K D N at_:Nat} {er:Int} {F:Nat→Int} {w:World} (x:Int) (hF:∀ j,j<N→inB (F j)) (h:Rd w K D F N at_ er) :
  Calls Tryz.prog 167 #[.pointer (some ⟨K,0,none⟩),.int .i64 x] w fun e w'=>e = .returned (.int .i64 (intF F at_ x (nxE N at_ er x 1 8)))∧Rd w' K D F N (nxA at_ x (nxE N at_ er x 1 8)) (nxE N at_ er x 1 8)∧But K w w':=by
 have CU:=Lib.hid (cut_any x 1 8 (by decide) h)
 have NB:=Lib.hid (fun q c w hq=>number_any q _ c _ (nxL_8 N at_ er x) (nx_in N at_ er x F hF) w hq)
 have L8:=nxL_8 N at_ er x
 have V:=leN_lt (fun j=>F (at_+j)) _ (nx_in N at_ er x F hF)
 unfold intF numF
 clear h hF
 generalize nxE N at_ er x 1 8=E at *
 generalize nxL x E=L at *
 generalize leN (fun j=>F (at_+j)) L=v at *
 obtain⟨m,em⟩:∃ m,64 - 8*L=m:=⟨_,rfl⟩
 have SB:=shift_back v L m L8 em V.1 V.2
 have w1:IntKind.i64.wrap (8*(L:Int))=8*(L:Int):=IntWalk.i64_in _ (by omega)
 have w2:IntKind.i64.wrap (64 - 8*(L:Int))=(m:Int):=by rw[IntWalk.i64_in _ (by omega)];omega
 have m0:(0:Int)≤(m:Int):=by omega
 have m64:(m:Int)≤64:=by omega
 obtain⟨s,es⟩:∃ s,sgn v L=s:=⟨_,rfl⟩
 rw[es] at SB ⊢
 obtain⟨y,ey⟩:∃ y,IntKind.u64.wrap (v*2 ^ m)=y:=⟨_,rfl⟩
 rw[ey] at SB
 obtain⟨z,ez⟩:∃ z,IntKind.i64.wrap y=z:=⟨_,rfl⟩
 rw[ez] at SB
 clear L8 V em es
 go_enter Tryz.func167,Tryz.ntmps167
 go_wp2_with (fail)
 go_at_call 115
 refine (CU.out).mono ?_
 rintro e w1 ⟨p,c,rfl,h1,h2,h3,h4,h5⟩
 have HB:=Lib.hid h3;have HR:=Lib.hid h4;have HU:=Lib.hid h5
 clear h1 h2 h3 h4 h5 CU
 go_wp2_with (fail)
 go_at_call 133
 refine (NB.out _ _ _ HB.out).mono ?_
 rintro e w2 ⟨rfl,hw⟩
 obtain rfl:w1=w2:=hw.symm
 go_wp2_with (fail)
 go_ret
 refine⟨?_,HR.out,HU.out⟩
 rw[← SB]
 rfl
set_option maxHeartbeats 4000000 in
theorem Take_any {K D N at_:Nat} {er:Int} {F:Nat→Int} {w:World} (x:Int) (hN:N≤70368744177664) (h:Rd w K D F N at_ er) :
  Calls Tryz.prog 75 #[.pointer (some ⟨K,0,none⟩),.int .i64 x] w fun e w'=>∃ v,e = .returned v∧w'.ownsRow w.heap.size 5 1 v (nxL x (nxE N at_ er x 0 9223372036854775807)) (nums .u8 (fun j=>F (at_+j)) (nxL x (nxE N at_ er x 0 9223372036854775807)))∧Rd w' K D F N (nxA at_ x (nxE N at_ er x 0 9223372036854775807)) (nxE N at_ er x 0 9223372036854775807)∧But K w w':=by
 have CU:=Lib.hid (cut_any x 0 9223372036854775807 (by decide) h)
 have LN:nxL x (nxE N at_ er x 0 9223372036854775807)≤N:=by
  unfold nxL nxE
  by_cases h0:er=0
  ·by_cases h1:x<0∨9223372036854775807<x
   ·simp[h0,h1]
   ·by_cases h2:((N - at_:Nat):Int)<x
    ·simp[h0,h1,h2]
    ·simp[h0,h1,h2];omega
  ·simp[h0]
 have Kl:=h.lt
 clear h
 generalize nxE N at_ er x 0 9223372036854775807=E at *
 generalize nxL x E=L at *
 have CL:=Lib.hid (fun q c w hq=>Clone_any q L c (fun j=>F (at_+j)) (by omega) w hq)
 have KL:=Lib.hid Kl
 clear LN hN Kl
 go_enter Tryz.func75,Tryz.ntmps75
 go_wp2_with (fail)
 go_at_call 115
 refine (CU.out).mono ?_
 rintro e w1 ⟨p,c,rfl,h1,h2,h3,h4,h5⟩
 have HB:=Lib.hid h3;have HR:=Lib.hid h4;have HU:=Lib.hid h5
 clear h1 h2 h3 h4 h5 CU
 go_wp2_with (fail)
 go_at_call 107
 refine (CL.out _ _ _ HB.out).mono ?_
 rintro e w2 ⟨v,rfl,hrow,hb⟩
 have O1:=Lib.hid (row_base hrow HU.out.below.size)
 have O2:=Lib.hid (HR.out.later hb)
 have O3:=Lib.hid (HU.out.trans (But.of hb HR.out.lt))
 clear hrow hb HB HR HU
 go_wp2_with (fail)
 go_ret
 exact⟨v,rfl,O1.out,O2.out,O3.out⟩
end Go.Proofs.YtbilamnnneddmaaGreatDoor
