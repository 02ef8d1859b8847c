import Derived.WalkKit
import Derived.ChangeSlices
import Derived.Lib.SmallJoins
import Derived.OpenShut
import Derived.ProofKit
import Derived.Deep.Strs
import Derived.Deep.Fields
import Derived.Test.YtbilamnnneddmaaGreatDoorZKA
namespace Go.Proofs.YtbilamnnneddmaaGreatDoor
set_option linter.unusedVariables false
set_option maxRecDepth 2000
set_option linter.unusedSimpArgs false
open Go.ChangeShapes Go.WideShapes Go.ChangeAt Go.RowKit Go.Joins Go.Deep
structure Sl (w:World) (p:Option Addr) (n cap S:Nat) (f:Nat→List Value) (Q:List Value→Prop):Prop where
 le:n≤cap
 max:cap≤9223372036854775807
 q:∀ k,k<n→Q (f k)
 row:n=0∨∃ blk off,p=some ⟨blk,off,none⟩∧blk<w.heap.size∧∀ k,k<n→Has blk (off+k*S) (f k) w
theorem Sl.take {w:World} {p:Option Addr} {n cap S m:Nat} {f:Nat→List Value} {Q:List Value→Prop} (h:Sl w p n cap S f Q) (hm:m≤n):Sl w p m cap S f Q where
 le:=by have:=h.le;omega
 max:=h.max
 q:=fun k hk=>h.q k (by omega)
 row:=by
  rcases h.row with h0 | ⟨blk,off,hp,hb,hr⟩
  ·left;omega
  ·right;exact⟨blk,off,hp,hb,fun k hk=>hr k (by omega)⟩
theorem Sl.later {w w':World} {p:Option Addr} {n cap S:Nat} {f:Nat→List Value} {Q:List Value→Prop} (h:Sl w p n cap S f Q) (hb:Below w.heap.size w w'):Sl w' p n cap S f Q where
 le:=h.le
 max:=h.max
 q:=h.q
 row:=by
  rcases h.row with h0 | ⟨blk,off,hp,hk,hr⟩
  ·exact .inl h0
  ·exact .inr ⟨blk,off,hp,Nat.lt_of_lt_of_le hk hb.size,fun k hk2=>(hr k hk2).later hb⟩
end Go.Proofs.YtbilamnnneddmaaGreatDoor
