import Derived.WalkKit
import Derived.ChangeSlices
import Derived.Lib.SmallJoins
import Derived.OpenShut
import Derived.ProofKit
import Derived.Deep.Strs
import Derived.Deep.Fields
import Derived.Test.YtbilamnnneddmaaGreatDoorYKA
namespace Go.Proofs.YtbilamnnneddmaaGreatDoor
set_option linter.unusedVariables false
set_option maxRecDepth 2000
set_option linter.unusedSimpArgs false
open Go.ChangeShapes Go.WideShapes Go.ChangeAt Go.RowKit Go.Joins Go.Deep
structure Sl (w:World) (p:Option Addr) (n cap S:Nat) (f:Nat→List Value) (Q:List Value→Prop):Prop where
 le:n≤cap
 max:cap≤9223372036854775807
 q:∀ k,k<n→Q (f k)
 row:n=0∨∃ blk off,p=some ⟨blk,off,none⟩∧blk<w.heap.size∧∀ k,k<n→Has blk (off+k*S) (f k) w
theorem open_sl {H:Type} {enc:TypeId×Value→H} {P:Program} {w:World} {base:Nat} {spare:Nat→Bool} {held:Bool} {r:Reach} {b0:Nat} {t e:TypeId} {v:Value} {d:DataW H} {pl:List MemPlace} {S:Nat} (Q:List Value→Prop)
  (ht:P.underlying t=some (.slice e)) (hC:P.cellsOf e=S) (hS:0<S)
  (hQ:∀ fuel cs x,DataW.trod enc P w base spare held fuel e cs=some x→cs.length=S→Q cs)
  (hv:Value.okWide P w r b0 t v) (h:DataW.Trod enc P w base spare held t v d pl) (hlt:∀ x∈pl,x.block<w.heap.size) :
  ∃ p n cap f,v = .slice p n cap∧Sl w p n cap S f Q:=by
 obtain⟨a0,len,cap,rfl⟩:=okWide_slice ht hv
 obtain⟨fuel,hf⟩:=h
 rcases DataW.trod_slice ht hf with ⟨h0,_⟩ | ⟨a,len',cap',elems,rest,n,_,hcs,hx,hb,hl,hm,hlen,hel,_,_⟩
 ·simp[Value.cells] at h0
  obtain⟨rfl,rfl,rfl⟩:=h0
  exact⟨none,0,0,fun _=>[],rfl,⟨Nat.le_refl _,by omega,fun k hk=>absurd hk (Nat.not_lt_zero k),.inl rfl⟩⟩
 ·simp[Value.cells] at hcs
  obtain⟨rfl,rfl,rfl⟩:=hcs
  unfold maxLen at hm
  have key:∀ i,i<len→∃ cs:List Value,cs.length=S∧Q cs∧∀ j,j<S→w.cell? ((a.add (i*S)).add j)=cs[j]?:=fun i hi=>by
   have hy:elems[i]?=some (elems[i]'(by omega)):=List.getElem?_eq_getElem (by omega)
   have hb':=(hel i hi).trans hy
   rw[hC,Option.bind_eq_some_iff] at hb'
   obtain⟨c3,hcs,hy'⟩:=hb'
   obtain⟨_,hc3,hcell⟩:=World.cells?_some hcs
   exact⟨c3,hc3,hQ _ _ _ hy' hc3,hcell⟩
  by_cases hl0:len=0
  ·subst hl0
   exact⟨some a,0,cap,fun _=>[],rfl,⟨by omega,by omega,fun k hk=>absurd hk (Nat.not_lt_zero k),.inl rfl⟩⟩
  ·obtain⟨blk,off,spot⟩:=a
   have hspot:spot=none:=by
    obtain⟨cs,hc,_,hcell⟩:=key 0 (by omega)
    have h0:=hcell 0 hS
    rw[List.getElem?_eq_getElem (by omega)] at h0
    simpa[Addr.add] using World.cell?_spot h0
   subst hspot
   have hbk:blk<w.heap.size:=by
    refine hlt (.cell blk off) ?_
    rw[Prod.mk.injEq] at hx
    rw[hx.2]
    refine List.mem_append.2 (Or.inl (MemPlace.mem_row.2 ⟨0,?_,by simp⟩))
    rw[hC,hlen]
    exact Nat.mul_pos (by omega) hS
   have ch:∀ k,∃ cs:List Value,k<len→cs.length=S∧Q cs∧∀ j,j<S→w.cell? (((⟨blk,off,none⟩:Addr).add (k*S)).add j)=cs[j]?:=fun k=>by
    by_cases hk:k<len
    ·obtain⟨cs,h1⟩:=key k hk
     exact⟨cs,fun _=>h1⟩
    ·exact⟨[],fun h=>absurd h hk⟩
   refine⟨some ⟨blk,off,none⟩,len,cap,fun k=>Classical.choose (ch k),rfl,⟨hl,by omega,fun k hk=>(Classical.choose_spec (ch k) hk).2.1,.inr ⟨blk,off,rfl,hbk,fun k hk=>⟨hbk,fun j v hj=>?_⟩⟩⟩⟩
   obtain⟨h1,_,h3⟩:=Classical.choose_spec (ch k) hk
   have hjS:j<S:=by
    rw[← h1]
    exact (List.getElem?_eq_some_iff.1 hj).1
   have h4:=h3 j hjS
   have ea:((⟨blk,off,none⟩:Addr).add (k*S)).add j=⟨blk,off+k*S+j,none⟩:=by rw[Addr.add_mid,Addr.add_mid]
   rw[← ea]
   exact h4.trans hj
theorem Sl.take {w:World} {p:Option Addr} {n cap S m:Nat} {f:Nat→List Value} {Q:List Value→Prop} (h:Sl w p n cap S f Q) (hm:m≤n):Sl w p m cap S f Q where
 le:=by have:=h.le;omega
 max:=h.max
 q:=fun k hk=>h.q k (by omega)
 row:=by
  rcases h.row with h0 | ⟨blk,off,hp,hb,hr⟩
  ·left;omega
  ·right;exact⟨blk,off,hp,hb,fun k hk=>hr k (by omega)⟩
theorem Sl.later {w w':World} {p:Option Addr} {n cap S:Nat} {f:Nat→List Value} {Q:List Value→Prop} (h:Sl w p n cap S f Q) (hb:Below w.heap.size w w'):Sl w' p n cap S f Q where
 le:=h.le
 max:=h.max
 q:=h.q
 row:=by
  rcases h.row with h0 | ⟨blk,off,hp,hk,hr⟩
  ·exact .inl h0
  ·exact .inr ⟨blk,off,hp,Nat.lt_of_lt_of_le hk hb.size,fun k hk2=>(hr k hk2).later hb⟩
end Go.Proofs.YtbilamnnneddmaaGreatDoor
