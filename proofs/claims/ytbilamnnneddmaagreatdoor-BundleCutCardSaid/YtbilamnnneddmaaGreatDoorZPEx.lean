import Derived.Test.YtbilamnnneddmaaGreatDoorZPCx
import Derived.Test.YtbilamnnneddmaaGreatDoorZCTx
import Derived.WalkKit
import Derived.ProofKit
import Derived.OpenShut
import Derived.ChangeSame
import Derived.Test.YtbilamnnneddmaaGreatDoorZPS
import Derived.Test.YtbilamnnneddmaaGreatDoorZCOx
import Derived.Deep.Onto
import Derived.Test.YtbilamnnneddmaaGreatDoorZCHx
import Derived.Lib.Hide
import Derived.Laws.OwnMore
import Derived.Laws.BytesString
import Derived.Shelf.Bytes.SlSmallAll
import Derived.Lib.Bytes
namespace Go.Proofs.YtbilamnnneddmaaGreatDoor
set_option linter.unusedVariables false
set_option maxRecDepth 2000
set_option linter.unusedSimpArgs false
open Go.RowKit
theorem rows_ne {w:World} {base base' s s' n n':Nat} {e e':TypeId} {v v':Value} {xs xs':List Value} (h:w.ownsRow base e s v n xs) (h':w.ownsRow base' e' s' v' n' xs') (he:e≠e'):v.ownBlock=none∨v.ownBlock≠v'.ownBlock:=by
 rcases h.2 with ⟨rfl,_⟩ | ⟨g,cap,cur,rfl,_,hg,_⟩
 ·exact .inl rfl
 ·refine .inr ?_
  rcases h'.2 with ⟨rfl,_⟩ | ⟨g',cap',cur',rfl,_,hg',_⟩
  ·simp[Value.ownBlock]
  ·simp only[Value.ownBlock,ne_eq,Option.some.injEq]
   rintro rfl
   rw[hg] at hg'
   simp only[Option.some.injEq,Obj.cells.injEq] at hg'
   exact he hg'.2.1
def Data (w:World) (p:Option Addr) (np:Nat) (q:Nat→Option Addr) (m c:Nat→Nat) (f:Nat→Nat→Int):Prop:=∀ k,k<np→∃ D o,p=some ⟨D,o,none⟩∧D<w.heap.size∧w.cell? ⟨D,o+k,none⟩=some (.slice (q k) (m k) (c k))∧m k≤c k∧c k≤9223372036854775807∧Byt w (q k) (m k) (f k)
theorem Data.later {w w':World} {p:Option Addr} {np:Nat} {q:Nat→Option Addr} {m c:Nat→Nat} {f:Nat→Nat→Int} (h:Data w p np q m c f) (hb:Below w.heap.size w w'):Data w' p np q m c f:=fun k hk=>by
 obtain⟨D,o,h1,h2,h3,h4,h5,h6⟩:=h k hk
 exact⟨D,o,h1,Nat.lt_of_lt_of_le h2 hb.size,(hb.cell (p:=⟨D,o+k,none⟩) h2).trans h3,h4,h5,h6.later hb⟩
theorem byt_congr {w:World} {q:Option Addr} {n:Nat} {f g:Nat→Int} (h:Byt w q n f) (e:∀ j,j<n→f j=g j):Byt w q n g:=by
 rcases h with h | ⟨b,off,h1,h2⟩
 ·exact .inl h
 ·refine .inr ⟨b,off,h1,?_⟩
  rwa [nums_congr .u8 e] at h2
end Go.Proofs.YtbilamnnneddmaaGreatDoor
namespace Go.Proofs.YtbilamnnneddmaaGreatDoor
set_option linter.unusedVariables false
set_option maxRecDepth 2000
set_option linter.unusedSimpArgs false
open Go.RowKit
theorem strg_inj {f g:Nat→Int} {n:Nat} (hf:∀ i,i<n→inB (f i)) (hg:∀ i,i<n→inB (g i)) (h:strOfNums ((List.range n).map f)=strOfNums ((List.range n).map g)):∀ i,i<n→f i=g i:=fun i hi=>by
 have h1:=congrArg (fun s:ByteArray=>s.data.toList) h
 simp only[strOfNums_data,List.map_map] at h1
 have h2:=congrArg (fun l:List UInt8=>l[i]?) h1
 simp only[List.getElem?_map,List.getElem?_range hi,Option.map_some,Option.some.injEq,Function.comp] at h2
 have h3:=congrArg UInt8.toNat h2
 have a:=hf i hi;have b:=hg i hi
 unfold inB at a b
 simp only[UInt8.toNat_ofNat'] at h3
 omega
theorem EqualG_any (q1 q2:Option Addr) (n c1 c2:Nat) (f g:Nat→Int) (hf:∀ i,i<n→inB (f i)) (hg:∀ i,i<n→inB (g i)) (w:World) (h1:Byt w q1 n f) (h2:Byt w q2 n g):Calls Tryz.prog 12 #[.slice q1 n c1,.slice q2 n c2] w fun e w'=>e = .returned (.bool (gqB f g n))∧Below w.heap.size w w':=by
 cases hz:gqB f g n with
 | true=>exact Equal_any q1 q2 n c1 c2 f w h1 (byt_congr h2 fun j hj=>(of_decide_eq_true hz j hj).symm)
 | false =>
  have e1:=conv_any q1 n c1 f w h1
  have e2:=conv_any q2 n c2 g w h2
  have ne:¬ strOfNums ((List.range n).map f)=strOfNums ((List.range n).map g):=fun h=>by
   have:=gqB_congr (strg_inj hf hg h)
   rw[hz] at this
   cases this
  have ne2:¬ (strOfNums ((List.range n).map f)).toList=(strOfNums ((List.range n).map g)).toList:=fun h=>ne (by
   rw[Lib.toList_data,Lib.toList_data] at h
   exact ByteArray.ext (Array.toList_inj.mp h))
  generalize strOfNums ((List.range n).map f)=S at *
  generalize strOfNums ((List.range n).map g)=S2 at *
  clear h1 h2 hz hf hg
  go_enter Tryz.func12,Tryz.ntmps12
  go_wp2_with (fail)
  go_ret
  exact⟨by first | rfl | simp[ne,ne2],Below.refl _ _⟩
end Go.Proofs.YtbilamnnneddmaaGreatDoor
