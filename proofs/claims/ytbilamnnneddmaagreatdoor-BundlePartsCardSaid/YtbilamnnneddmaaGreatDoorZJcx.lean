import Derived.Test.YtbilamnnneddmaaGreatDoorZJbx
import Derived.Test.YtbilamnnneddmaaGreatDoorZTXBx
import Derived.Lib.Hide
import Derived.LoopN
import Derived.LoopTactic
import Derived.Deep.Onto
import Derived.Deep.RegionHeld3
import Derived.Deep.QuietTactic
import Derived.BigQuiet
import Derived.Great.BuildSlice
import Derived.StillTailTactics
import Derived.Lib.SliceRun
import Derived.OrdersHeld
import Derived.Test.YtbilamnnneddmaaGreatDoorZHUx
namespace Go.Proofs.YtbilamnnneddmaaGreatDoor
set_option linter.unusedVariables false
set_option maxRecDepth 2000
set_option linter.unusedSimpArgs false
open Go.RowKit
theorem has_apart {b o Q k:Nat} {cs vs:List Value} {W:World} (h:Has b o cs W) (hx:∀ j,j<cs.length→k≤o+j→o+j<k+vs.length→b=Q→False):Has b o cs (W.setCells Q k vs) where
 lt:=by rw[size_setCells];exact h.lt
 cell:=by
  by_cases e:b=Q
  ·intro j v hv
   have h1:=h.cell j v hv
   have hj:=(List.getElem?_eq_some_iff.1 hv).1
   subst e
   rw[World.cell?_setCells_out b vs k W ⟨b,o+j,none⟩ (fun _ _=>by
    show o+j<k∨k+vs.length≤o+j
    by_cases a:o+j<k
    ·exact .inl a
    ·by_cases c:k+vs.length≤o+j
     ·exact .inr c
     ·exact (hx j hj (by omega) (by omega) rfl).elim)]
   exact h1
  ·exact World.rangeAt_setCells_apart h.cell _ _ _ (.inl e)
theorem NmS.mid {s n Q k:Nat} {q:Option Addr} {f:Nat→Int} {ds vs:List Value} {W:World} (h:NmS W s q n f) (hQ:Own Q ds W) (hd:∀ i,k≤i→i<k+vs.length→∃ p m c,ds[i]?=some (.slice p m c)):NmS (W.setCells Q k vs) s q n f:=by
 rcases h with h0 | ⟨b,o,e,hh⟩
 ·exact .inl h0
 ·refine .inr ⟨b,o,e,has_apart hh fun j hj h1 h2 e2=>?_⟩
  subst e2
  obtain⟨p,m,c,hp⟩:=hd _ h1 h2
  have a1:=hQ.at _ _ hp
  rw[nums_length] at hj
  have a2:=hh.at j _ (nums_at .i64 f hj)
  rw[a1] at a2
  cases a2
theorem MeshAt.far3 {M:Msh} {Q:Nat} {k0:Value} {p1 p2 p3:Option Addr} {n1 c1 n2 c2 n3 c3:Nat} {ds vs:List Value} {W:World} (h:MeshAt M W) (hQ:Own Q (k0 :: .slice p1 n1 c1 :: .slice p2 n2 c2 :: .slice p3 n3 c3 :: ds) W) (hl:vs.length=3):MeshAt M (W.setCells Q 1 vs):=by
 have hd:∀ i,1≤i→i<1+vs.length→∃ p m c,(k0 :: .slice p1 n1 c1 :: .slice p2 n2 c2 :: .slice p3 n3 c3 :: ds)[i]?=some (.slice p m c):=fun i h1 h2=>by
  rw[hl] at h2
  match i,h1,h2 with
  | 1,_,_=>exact⟨_,_,_,rfl⟩
  | 2,_,_=>exact⟨_,_,_,rfl⟩
  | 3,_,_=>exact⟨_,_,_,rfl⟩
 exact⟨h.v.mid hQ hd,h.u.mid hQ hd,h.t.mid hQ hd,h.lv,h.lu,h.lt,h.mv,h.mu,h.mt⟩
theorem TxAt.far3 {M:Txr} {Q:Nat} {k0 k1 k2 k4:Value} {p3 p5:Option Addr} {n3 c3 n5 c5:Nat} {ds vs:List Value} {W:World} (h:TxAt M W) (hQ:Own Q (k0 :: k1 :: k2 :: .slice p3 n3 c3 :: k4 :: .slice p5 n5 c5 :: ds) W) (hl:vs.length=2):TxAt M (W.setCells Q 4 vs):=by
 refine⟨?_,h.l,h.m⟩
 rcases h.t with h0 | ⟨b,o,e,hh⟩
 ·exact .inl h0
 ·refine .inr ⟨b,o,e,has_apart hh fun j hj h1 h2 e2=>?_⟩
  subst e2
  rw[nums_length] at hj
  rw[hl] at h2
  have s3:=hQ.at 3 _ rfl;have s5:=hQ.at 5 _ rfl
  have no:∀ i,i<M.n*3→o+i≠3∧o+i≠5:=fun i hi=>by
   have a2:=hh.at i _ (nums_at .i64 M.f hi)
   constructor
   ·intro e3;rw[e3,s3] at a2;cases a2
   ·intro e3;rw[e3,s5] at a2;cases a2
  have a:=no j hj
  have h4:o+j=4:=by omega
  by_cases hj0:j=0
  ·have:=no 1 (by omega)
   omega
  ·have:=no (j - 1) (by omega)
   omega
theorem MeshAt.self {M:Msh} {Q:Nat} {cs:List Value} {W:World} (h:MeshAt M W) (hQ:Own Q cs W):MeshAt M (W.setCells Q 0 cs):=by
 rw[setCells_self cs 0 W (fun j v hv=>by rw[Nat.zero_add];exact hQ.at j v hv)];exact h
theorem TxAt.self {M:Txr} {Q:Nat} {cs:List Value} {W:World} (h:TxAt M W) (hQ:Own Q cs W):TxAt M (W.setCells Q 0 cs):=by
 rw[setCells_self cs 0 W (fun j v hv=>by rw[Nat.zero_add];exact hQ.at j v hv)];exact h
theorem EqA.symm {A B:Ast} (h:EqA A B):EqA B A:=⟨h.k.symm,⟨h.v.1.symm,fun j hj=>(h.v.2 j (by rw[h.v.1];exact hj)).symm⟩,⟨h.u.1.symm,fun j hj=>(h.u.2 j (by rw[h.u.1];exact hj)).symm⟩,⟨h.t.1.symm,fun j hj=>(h.t.2 j (by rw[h.t.1];exact hj)).symm⟩,h.s.symm,⟨h.x.1.symm,fun j hj=>(h.x.2 j (by rw[h.x.1];exact hj)).symm⟩,fun j hj=>(h.g j hj).symm,fun j hj=>(h.l j hj).symm⟩
theorem EqA.trans {A B C:Ast} (h:EqA A B) (k:EqA B C):EqA A C:=⟨h.k.trans k.k,⟨h.v.1.trans k.v.1,fun j hj=>(h.v.2 j hj).trans (k.v.2 j (by rw[← h.v.1];exact hj))⟩,⟨h.u.1.trans k.u.1,fun j hj=>(h.u.2 j hj).trans (k.u.2 j (by rw[← h.u.1];exact hj))⟩,⟨h.t.1.trans k.t.1,fun j hj=>(h.t.2 j hj).trans (k.t.2 j (by rw[← h.t.1];exact hj))⟩,h.s.trans k.s,⟨h.x.1.trans k.x.1,fun j hj=>(h.x.2 j hj).trans (k.x.2 j (by rw[← h.x.1];exact hj))⟩,fun j hj=>(h.g j hj).trans (k.g j hj),fun j hj=>(h.l j hj).trans (k.l j hj)⟩
theorem sameA_congr {A B C:Ast} (h:EqA A B):sameA A C=sameA B C:=Bool.eq_iff_iff.2 ⟨fun e=>sameA_iff.2 (h.symm.trans (sameA_iff.1 e)),fun e=>sameA_iff.2 (h.trans (sameA_iff.1 e))⟩
theorem chkM_congr {A B:Ast} (h:EqA A B):chkM A.M=chkM B.M:=by
 unfold chkM
 rw[chk_congr h.v.2 h.u.2 h.t.2,h.v.1,h.u.1,h.t.1]
theorem chkX_congr {A B:Ast} (h:EqA A B):chkT A.X.S A.X.n A.X.f=chkT B.X.S B.X.n B.X.f:=by
 rw[tchk_congr h.x.2,h.s,h.x.1]
theorem chkA_congr {A B:Ast} (h:EqA A B):chkA A=chkA B:=by
 have s1:sameA ⟨1,nilM,A.X,A.g,A.l⟩ (kinA 1)=sameA ⟨1,nilM,B.X,B.g,B.l⟩ (kinA 1):=sameA_congr ⟨rfl,⟨rfl,fun _ _=>rfl⟩,⟨rfl,fun _ _=>rfl⟩,⟨rfl,fun _ _=>rfl⟩,h.s,h.x,h.g,h.l⟩
 have s2:sameA ⟨2,A.M,nilX,A.g,A.l⟩ (kinA 2)=sameA ⟨2,B.M,nilX,B.g,B.l⟩ (kinA 2):=sameA_congr ⟨rfl,h.v,h.u,h.t,rfl,⟨rfl,fun _ _=>rfl⟩,h.g,h.l⟩
 have s3:sameA ⟨3,A.M,A.X,fun _=>0,A.l⟩ (kinA 3)=sameA ⟨3,B.M,B.X,fun _=>0,B.l⟩ (kinA 3):=sameA_congr ⟨rfl,h.v,h.u,h.t,h.s,h.x,fun _ _=>rfl,h.l⟩
 have s4:sameA ⟨4,A.M,A.X,A.g,fun _=>0⟩ (kinA 4)=sameA ⟨4,B.M,B.X,B.g,fun _=>0⟩ (kinA 4):=sameA_congr ⟨rfl,h.v,h.u,h.t,h.s,h.x,h.g,fun _ _=>rfl⟩
 unfold chkA
 rw[h.k,chkM_congr h,chkX_congr h,chkG_congr h.g,chkLg_congr h.l,s1,s2,s3,s4]
def decA (k:Int) (F:Nat→Int) (N:Nat):Ast :=
 if k=1 then ⟨k,⟨none,dcN F N 0,0,decV F N,none,dcN F N 0,0,decU F N,none,dcN F N 1,0,decR F N⟩,nilX,fun _=>0,fun _=>0⟩
 else if k=2 then ⟨k,nilM,⟨(dcS F N:Int),none,dcS F N*dcS F N,0,fun j=>F (1+j)⟩,fun _=>0,fun _=>0⟩
 else if k=3 then ⟨k,nilM,nilX,decG F N,fun _=>0⟩
 else if k=4 then ⟨k,nilM,nilX,fun _=>0,decLt F N⟩
 else kinA k
def decZ (k:Int) (F:Nat→Int) (N:Nat):Int:=if k=1 then decE F N else if k=2 then tdecE F N else if k=3 then endE N 9 (erN N 9) else if k=4 then endE N 31 (erN N 31) else 12
def decEA (k:Int) (F:Nat→Int) (N:Nat):Int:=if decZ k F N=0 then chkA (decA k F N) else decZ k F N
set_option maxHeartbeats 8000000 in
theorem decode_1 (F:Nat→Int) (q:Option Addr) (N c:Nat) (hF:∀ j,j<N→inB (F j)) (hN:N≤1200) (w:World) (hq:Byt w q N F) :
  Calls Tryz.prog 78 #[.int .i64 1,.slice q N c] w fun e w'=>(∃ M,e = .returned (.tuple #[(.agg #[.int .i64 1,.slice M.qv M.nv M.cv,.slice M.qu M.nu M.cu,.slice M.qt M.nt M.ct,.int .i64 0,.slice none 0 0,.int .i64 0,.int .i64 0,.int .i64 0,.int .i64 0,.int .i64 0,.int .i64 0,.int .i64 0,.int .i64 0,.int .i64 0,.int .i64 0,.int .i64 0,.int .i64 0,.int .i64 0,.int .i64 0,.int .i64 0,.int .i64 0,.int .i64 0,.int .i64 0]),.int .i64 (decE F N)])∧MeshAt M w'∧DecM F N M∧FrU w.heap.size M)∧Below w.heap.size w w':=by
 have HQ:=Lib.hid hq
 have CON:=Lib.hid (Decode_any F q N c hF (by omega))
 have DM:=Lib.hid (fun M (h:DecM F N M)=>h)
 obtain⟨z,ez⟩:∃ z,decE F N=z:=⟨_,rfl⟩
 rw[ez] at CON ⊢
 clear ez
 clear hF hN hq
 go_enter Tryz.func78,Tryz.ntmps78
 go_upto_region 1 with fail
 obtain⟨W0,hW⟩:∃ W0,W0=(w.alloc (.cells #[.int .i64 0,.slice none 0 0,.slice none 0 0,.slice none 0 0,.int .i64 0,.slice none 0 0,.int .i64 0,.int .i64 0,.int .i64 0,.int .i64 0,.int .i64 0,.int .i64 0,.int .i64 0,.int .i64 0,.int .i64 0,.int .i64 0,.int .i64 0,.int .i64 0,.int .i64 0,.int .i64 0,.int .i64 0,.int .i64 0,.int .i64 0,.int .i64 0] 45)):=⟨_,rfl⟩
 have hB0:Below w.heap.size w W0:=hW ▸ (Below.al (Below.refl _ _))
 have HP:Hid (Own w.heap.size ([.int .i64 0,.slice none 0 0,.slice none 0 0,.slice none 0 0,.int .i64 0,.slice none 0 0,.int .i64 0,.int .i64 0,.int .i64 0,.int .i64 0,.int .i64 0,.int .i64 0,.int .i64 0,.int .i64 0,.int .i64 0,.int .i64 0,.int .i64 0,.int .i64 0,.int .i64 0,.int .i64 0,.int .i64 0,.int .i64 0,.int .i64 0,.int .i64 0]) W0):=Lib.hid (hW ▸ (show Own w.heap.size ([.int .i64 0,.slice none 0 0,.slice none 0 0,.slice none 0 0,.int .i64 0,.slice none 0 0,.int .i64 0,.int .i64 0,.int .i64 0,.int .i64 0,.int .i64 0,.int .i64 0,.int .i64 0,.int .i64 0,.int .i64 0,.int .i64 0,.int .i64 0,.int .i64 0,.int .i64 0,.int .i64 0,.int .i64 0,.int .i64 0,.int .i64 0,.int .i64 0]) (w.alloc (.cells #[.int .i64 0,.slice none 0 0,.slice none 0 0,.slice none 0 0,.int .i64 0,.slice none 0 0,.int .i64 0,.int .i64 0,.int .i64 0,.int .i64 0,.int .i64 0,.int .i64 0,.int .i64 0,.int .i64 0,.int .i64 0,.int .i64 0,.int .i64 0,.int .i64 0,.int .i64 0,.int .i64 0,.int .i64 0,.int .i64 0,.int .i64 0,.int .i64 0] 45)) from Own.newAt (by simp)))
 rw[← hW]
 clear hW
 obtain⟨P,eP⟩:∃ X,X=w.heap.size:=⟨_,rfl⟩
 rw[← eP] at HP ⊢
 have Pw:w.heap.size≤P:=by omega
 clear eP
 have oP:=HP.out
 have P0:=oP.at 0 _ rfl
 have Pf0:=oP.ok 0 (Nat.le_of_ble_eq_true rfl)
 have Pl:=oP.lt
 clear oP
 go_upto_region 2 with fail
 clear P0 Pf0 Pl
 rw[show (W0.setCell ⟨P,0,none⟩ (.int .i64 1))=W0.setCells P 0 [.int .i64 1] from rfl]
 have HP1:Hid (Own P ([.int .i64 1,.slice none 0 0,.slice none 0 0,.slice none 0 0,.int .i64 0,.slice none 0 0,.int .i64 0,.int .i64 0,.int .i64 0,.int .i64 0,.int .i64 0,.int .i64 0,.int .i64 0,.int .i64 0,.int .i64 0,.int .i64 0,.int .i64 0,.int .i64 0,.int .i64 0,.int .i64 0,.int .i64 0,.int .i64 0,.int .i64 0,.int .i64 0]) (W0.setCells P 0 [.int .i64 1])):=Lib.hid (show Own P (over _ 0 [.int .i64 1]) _ from Own.part HP.out (Nat.le_of_ble_eq_true rfl))
 have hB1:Below w.heap.size w (W0.setCells P 0 [.int .i64 1]):=Below.setCells hB0 Pw _ _
 clear HP hB0
 generalize W0.setCells P 0 [.int .i64 1]=w1 at *
 go_wp2_with (fail)
 go_at_call 116
 refine (CON.out _ (HQ.out.later hB1)).mono ?_
 rintro e w2 ⟨⟨M,rfl,hM,hD,hU⟩,hb⟩
 have FU:=Lib.hid (hU.mono hB1.size)
 clear hU
 have HP2:=Lib.hid (HP1.out.later hb);have hB2:=Below.go hB1 hb
 have MM:=Lib.hid hM;have DD:=Lib.hid hD
 clear hM hD hb HP1 hB1 HQ CON DM
 have oP:=HP2.out
 have P1:=oP.at 1 _ rfl
 have Pf1:=oP.ok 1 (Nat.le_of_ble_eq_true rfl)
 have P2:=oP.at 2 _ rfl
 have Pf2:=oP.ok 2 (Nat.le_of_ble_eq_true rfl)
 have P3:=oP.at 3 _ rfl
 have Pf3:=oP.ok 3 (Nat.le_of_ble_eq_true rfl)
 have Pl:=oP.lt
 clear oP
 go_upto_region 12 with fail
 clear P1 Pf1 P2 Pf2 P3 Pf3 Pl
 rw[show (((w2.setCell ⟨P,1,none⟩ (.slice M.qv M.nv M.cv)).setCell ⟨P,2,none⟩ (.slice M.qu M.nu M.cu)).setCell ⟨P,3,none⟩ (.slice M.qt M.nt M.ct))=w2.setCells P 1 [.slice M.qv M.nv M.cv,.slice M.qu M.nu M.cu,.slice M.qt M.nt M.ct] from rfl]
 have HP3:Hid (Own P ([.int .i64 1,.slice M.qv M.nv M.cv,.slice M.qu M.nu M.cu,.slice M.qt M.nt M.ct,.int .i64 0,.slice none 0 0,.int .i64 0,.int .i64 0,.int .i64 0,.int .i64 0,.int .i64 0,.int .i64 0,.int .i64 0,.int .i64 0,.int .i64 0,.int .i64 0,.int .i64 0,.int .i64 0,.int .i64 0,.int .i64 0,.int .i64 0,.int .i64 0,.int .i64 0,.int .i64 0]) (w2.setCells P 1 [.slice M.qv M.nv M.cv,.slice M.qu M.nu M.cu,.slice M.qt M.nt M.ct])):=Lib.hid (show Own P (over _ 1 [.slice M.qv M.nv M.cv,.slice M.qu M.nu M.cu,.slice M.qt M.nt M.ct]) _ from Own.part HP2.out (Nat.le_of_ble_eq_true rfl))
 have hB3:Below w.heap.size w (w2.setCells P 1 [.slice M.qv M.nv M.cv,.slice M.qu M.nu M.cu,.slice M.qt M.nt M.ct]):=Below.setCells hB2 Pw _ _
 have MM3:=Lib.hid (MeshAt.far3 MM.out HP2.out (vs:=[.slice M.qv M.nv M.cv,.slice M.qu M.nu M.cu,.slice M.qt M.nt M.ct]) rfl)
 clear HP2 hB2 MM
 generalize w2.setCells P 1 [.slice M.qv M.nv M.cv,.slice M.qu M.nu M.cu,.slice M.qt M.nt M.ct]=w3 at *
 go_wp2_with (first | (refine wpList_load_mid rfl 45 _ rfl P 0 rfl ([.int .i64 1,.slice M.qv M.nv M.cv,.slice M.qu M.nu M.cu,.slice M.qt M.nt M.ct,.int .i64 0,.slice none 0 0,.int .i64 0,.int .i64 0,.int .i64 0,.int .i64 0,.int .i64 0,.int .i64 0,.int .i64 0,.int .i64 0,.int .i64 0,.int .i64 0,.int .i64 0,.int .i64 0,.int .i64 0,.int .i64 0,.int .i64 0,.int .i64 0,.int .i64 0,.int .i64 0]) _ HP3.out.cell Tryz.underlying45 rfl (by kernel_rfl) ?_) | (refine wpList_store_mid rfl 45 _ _ rfl P 0 ([.int .i64 1,.slice M.qv M.nv M.cv,.slice M.qu M.nu M.cu,.slice M.qt M.nt M.ct,.int .i64 0,.slice none 0 0,.int .i64 0,.int .i64 0,.int .i64 0,.int .i64 0,.int .i64 0,.int .i64 0,.int .i64 0,.int .i64 0,.int .i64 0,.int .i64 0,.int .i64 0,.int .i64 0,.int .i64 0,.int .i64 0,.int .i64 0,.int .i64 0,.int .i64 0,.int .i64 0]).toArray rfl rfl HP3.out.free (by kernel_rfl) (by first | exact cA_one _ | simp[Value.oneCell']) ?_;change wpList _ _ _ _ _ (w3.setCells P 0 ([.int .i64 1,.slice M.qv M.nv M.cv,.slice M.qu M.nu M.cu,.slice M.qt M.nt M.ct,.int .i64 0,.slice none 0 0,.int .i64 0,.int .i64 0,.int .i64 0,.int .i64 0,.int .i64 0,.int .i64 0,.int .i64 0,.int .i64 0,.int .i64 0,.int .i64 0,.int .i64 0,.int .i64 0,.int .i64 0,.int .i64 0,.int .i64 0,.int .i64 0,.int .i64 0,.int .i64 0]));have HPz:Hid (Own P ([.int .i64 1,.slice M.qv M.nv M.cv,.slice M.qu M.nu M.cu,.slice M.qt M.nt M.ct,.int .i64 0,.slice none 0 0,.int .i64 0,.int .i64 0,.int .i64 0,.int .i64 0,.int .i64 0,.int .i64 0,.int .i64 0,.int .i64 0,.int .i64 0,.int .i64 0,.int .i64 0,.int .i64 0,.int .i64 0,.int .i64 0,.int .i64 0,.int .i64 0,.int .i64 0,.int .i64 0]) (w3.setCells P 0 ([.int .i64 1,.slice M.qv M.nv M.cv,.slice M.qu M.nu M.cu,.slice M.qt M.nt M.ct,.int .i64 0,.slice none 0 0,.int .i64 0,.int .i64 0,.int .i64 0,.int .i64 0,.int .i64 0,.int .i64 0,.int .i64 0,.int .i64 0,.int .i64 0,.int .i64 0,.int .i64 0,.int .i64 0,.int .i64 0,.int .i64 0,.int .i64 0,.int .i64 0,.int .i64 0,.int .i64 0]))):=Lib.hid (Own.store HP3.out rfl);have MMz:=Lib.hid (MeshAt.self MM3.out HP3.out);have hBz:Below w.heap.size w (w3.setCells P 0 ([.int .i64 1,.slice M.qv M.nv M.cv,.slice M.qu M.nu M.cu,.slice M.qt M.nt M.ct,.int .i64 0,.slice none 0 0,.int .i64 0,.int .i64 0,.int .i64 0,.int .i64 0,.int .i64 0,.int .i64 0,.int .i64 0,.int .i64 0,.int .i64 0,.int .i64 0,.int .i64 0,.int .i64 0,.int .i64 0,.int .i64 0,.int .i64 0,.int .i64 0,.int .i64 0,.int .i64 0])):=Below.setCells hB3 Pw _ _;generalize w3.setCells P 0 ([.int .i64 1,.slice M.qv M.nv M.cv,.slice M.qu M.nu M.cu,.slice M.qt M.nt M.ct,.int .i64 0,.slice none 0 0,.int .i64 0,.int .i64 0,.int .i64 0,.int .i64 0,.int .i64 0,.int .i64 0,.int .i64 0,.int .i64 0,.int .i64 0,.int .i64 0,.int .i64 0,.int .i64 0,.int .i64 0,.int .i64 0,.int .i64 0,.int .i64 0,.int .i64 0,.int .i64 0])=wz at *))
 have hL:=run_loadVar_mid (P:=Tryz.prog) _ P 0 45 ([.int .i64 1,.slice M.qv M.nv M.cv,.slice M.qu M.nu M.cu,.slice M.qt M.nt M.ct,.int .i64 0,.slice none 0 0,.int .i64 0,.int .i64 0,.int .i64 0,.int .i64 0,.int .i64 0,.int .i64 0,.int .i64 0,.int .i64 0,.int .i64 0,.int .i64 0,.int .i64 0,.int .i64 0,.int .i64 0,.int .i64 0,.int .i64 0,.int .i64 0,.int .i64 0,.int .i64 0]) _ HPz.out.cell Tryz.underlying45 rfl (by kernel_rfl)
 exact bodyPost_ret (v := .tuple #[.agg ([.int .i64 1,.slice M.qv M.nv M.cv,.slice M.qu M.nu M.cu,.slice M.qt M.nt M.ct,.int .i64 0,.slice none 0 0,.int .i64 0,.int .i64 0,.int .i64 0,.int .i64 0,.int .i64 0,.int .i64 0,.int .i64 0,.int .i64 0,.int .i64 0,.int .i64 0,.int .i64 0,.int .i64 0,.int .i64 0,.int .i64 0,.int .i64 0,.int .i64 0,.int .i64 0,.int .i64 0]).toArray,.int .i64 z]) (res_two Tryz.results78 rfl hL rfl) rfl ⟨⟨M,rfl,MMz.out,DD.out,FU.out⟩,hBz⟩
set_option maxHeartbeats 8000000 in
theorem decode_2 (F:Nat→Int) (q:Option Addr) (N c:Nat) (hF:∀ j,j<N→inB (F j)) (hN:N≤1200) (w:World) (hq:Byt w q N F) :
  Calls Tryz.prog 78 #[.int .i64 2,.slice q N c] w fun e w'=>(∃ M:Txr,e = .returned (.tuple #[(.agg #[.int .i64 2,.slice none 0 0,.slice none 0 0,.slice none 0 0,.int .i64 M.S,.slice M.q M.n M.c,.int .i64 0,.int .i64 0,.int .i64 0,.int .i64 0,.int .i64 0,.int .i64 0,.int .i64 0,.int .i64 0,.int .i64 0,.int .i64 0,.int .i64 0,.int .i64 0,.int .i64 0,.int .i64 0,.int .i64 0,.int .i64 0,.int .i64 0,.int .i64 0]),.int .i64 (tdecE F N)])∧TxAt M w'∧DecO F N M∧FrQ w.heap.size M.n M.q)∧Below w.heap.size w w':=by
 have HQ:=Lib.hid hq
 have CON:=Lib.hid (tDecode_any q N c F hF (by omega))
 skip
 obtain⟨z,ez⟩:∃ z,tdecE F N=z:=⟨_,rfl⟩
 rw[ez] at CON ⊢
 clear ez
 clear hF hN hq
 go_enter Tryz.func78,Tryz.ntmps78
 go_upto_region 1 with fail
 obtain⟨W0,hW⟩:∃ W0,W0=(w.alloc (.cells #[.int .i64 0,.slice none 0 0,.slice none 0 0,.slice none 0 0,.int .i64 0,.slice none 0 0,.int .i64 0,.int .i64 0,.int .i64 0,.int .i64 0,.int .i64 0,.int .i64 0,.int .i64 0,.int .i64 0,.int .i64 0,.int .i64 0,.int .i64 0,.int .i64 0,.int .i64 0,.int .i64 0,.int .i64 0,.int .i64 0,.int .i64 0,.int .i64 0] 45)):=⟨_,rfl⟩
 have hB0:Below w.heap.size w W0:=hW ▸ (Below.al (Below.refl _ _))
 have HP:Hid (Own w.heap.size ([.int .i64 0,.slice none 0 0,.slice none 0 0,.slice none 0 0,.int .i64 0,.slice none 0 0,.int .i64 0,.int .i64 0,.int .i64 0,.int .i64 0,.int .i64 0,.int .i64 0,.int .i64 0,.int .i64 0,.int .i64 0,.int .i64 0,.int .i64 0,.int .i64 0,.int .i64 0,.int .i64 0,.int .i64 0,.int .i64 0,.int .i64 0,.int .i64 0]) W0):=Lib.hid (hW ▸ (show Own w.heap.size ([.int .i64 0,.slice none 0 0,.slice none 0 0,.slice none 0 0,.int .i64 0,.slice none 0 0,.int .i64 0,.int .i64 0,.int .i64 0,.int .i64 0,.int .i64 0,.int .i64 0,.int .i64 0,.int .i64 0,.int .i64 0,.int .i64 0,.int .i64 0,.int .i64 0,.int .i64 0,.int .i64 0,.int .i64 0,.int .i64 0,.int .i64 0,.int .i64 0]) (w.alloc (.cells #[.int .i64 0,.slice none 0 0,.slice none 0 0,.slice none 0 0,.int .i64 0,.slice none 0 0,.int .i64 0,.int .i64 0,.int .i64 0,.int .i64 0,.int .i64 0,.int .i64 0,.int .i64 0,.int .i64 0,.int .i64 0,.int .i64 0,.int .i64 0,.int .i64 0,.int .i64 0,.int .i64 0,.int .i64 0,.int .i64 0,.int .i64 0,.int .i64 0] 45)) from Own.newAt (by simp)))
 rw[← hW]
 clear hW
 obtain⟨P,eP⟩:∃ X,X=w.heap.size:=⟨_,rfl⟩
 rw[← eP] at HP ⊢
 have Pw:w.heap.size≤P:=by omega
 clear eP
 have oP:=HP.out
 have P0:=oP.at 0 _ rfl
 have Pf0:=oP.ok 0 (Nat.le_of_ble_eq_true rfl)
 have Pl:=oP.lt
 clear oP
 go_upto_region 2 with fail
 clear P0 Pf0 Pl
 rw[show (W0.setCell ⟨P,0,none⟩ (.int .i64 2))=W0.setCells P 0 [.int .i64 2] from rfl]
 have HP1:Hid (Own P ([.int .i64 2,.slice none 0 0,.slice none 0 0,.slice none 0 0,.int .i64 0,.slice none 0 0,.int .i64 0,.int .i64 0,.int .i64 0,.int .i64 0,.int .i64 0,.int .i64 0,.int .i64 0,.int .i64 0,.int .i64 0,.int .i64 0,.int .i64 0,.int .i64 0,.int .i64 0,.int .i64 0,.int .i64 0,.int .i64 0,.int .i64 0,.int .i64 0]) (W0.setCells P 0 [.int .i64 2])):=Lib.hid (show Own P (over _ 0 [.int .i64 2]) _ from Own.part HP.out (Nat.le_of_ble_eq_true rfl))
 have hB1:Below w.heap.size w (W0.setCells P 0 [.int .i64 2]):=Below.setCells hB0 Pw _ _
 clear HP hB0
 generalize W0.setCells P 0 [.int .i64 2]=w1 at *
 go_wp2_with (fail)
 go_at_call 117
 refine (CON.out _ (HQ.out.later hB1)).mono ?_
 rintro e w2 ⟨M,rfl,⟨hM,hD,hU⟩,hb⟩
 have FU:=Lib.hid (hU.mono hB1.size)
 clear hU
 have HP2:=Lib.hid (HP1.out.later hb);have hB2:=Below.go hB1 hb
 have MM:=Lib.hid hM;have DD:=Lib.hid hD
 clear hM hD hb HP1 hB1 HQ CON
 have oP:=HP2.out
 have P4:=oP.at 4 _ rfl
 have Pf4:=oP.ok 4 (Nat.le_of_ble_eq_true rfl)
 have P5:=oP.at 5 _ rfl
 have Pf5:=oP.ok 5 (Nat.le_of_ble_eq_true rfl)
 have Pl:=oP.lt
 clear oP
 go_upto_region 12 with fail
 clear P4 Pf4 P5 Pf5 Pl
 rw[show ((w2.setCell ⟨P,4,none⟩ (.int .i64 M.S)).setCell ⟨P,5,none⟩ (.slice M.q M.n M.c))=w2.setCells P 4 [.int .i64 M.S,.slice M.q M.n M.c] from rfl]
 have HP3:Hid (Own P ([.int .i64 2,.slice none 0 0,.slice none 0 0,.slice none 0 0,.int .i64 M.S,.slice M.q M.n M.c,.int .i64 0,.int .i64 0,.int .i64 0,.int .i64 0,.int .i64 0,.int .i64 0,.int .i64 0,.int .i64 0,.int .i64 0,.int .i64 0,.int .i64 0,.int .i64 0,.int .i64 0,.int .i64 0,.int .i64 0,.int .i64 0,.int .i64 0,.int .i64 0]) (w2.setCells P 4 [.int .i64 M.S,.slice M.q M.n M.c])):=Lib.hid (show Own P (over _ 4 [.int .i64 M.S,.slice M.q M.n M.c]) _ from Own.part HP2.out (Nat.le_of_ble_eq_true rfl))
 have hB3:Below w.heap.size w (w2.setCells P 4 [.int .i64 M.S,.slice M.q M.n M.c]):=Below.setCells hB2 Pw _ _
 have MM3:=Lib.hid (TxAt.far3 MM.out HP2.out (vs:=[.int .i64 M.S,.slice M.q M.n M.c]) rfl)
 clear HP2 hB2 MM
 generalize w2.setCells P 4 [.int .i64 M.S,.slice M.q M.n M.c]=w3 at *
 go_wp2_with (first | (refine wpList_load_mid rfl 45 _ rfl P 0 rfl ([.int .i64 2,.slice none 0 0,.slice none 0 0,.slice none 0 0,.int .i64 M.S,.slice M.q M.n M.c,.int .i64 0,.int .i64 0,.int .i64 0,.int .i64 0,.int .i64 0,.int .i64 0,.int .i64 0,.int .i64 0,.int .i64 0,.int .i64 0,.int .i64 0,.int .i64 0,.int .i64 0,.int .i64 0,.int .i64 0,.int .i64 0,.int .i64 0,.int .i64 0]) _ HP3.out.cell Tryz.underlying45 rfl (by kernel_rfl) ?_) | (refine wpList_store_mid rfl 45 _ _ rfl P 0 ([.int .i64 2,.slice none 0 0,.slice none 0 0,.slice none 0 0,.int .i64 M.S,.slice M.q M.n M.c,.int .i64 0,.int .i64 0,.int .i64 0,.int .i64 0,.int .i64 0,.int .i64 0,.int .i64 0,.int .i64 0,.int .i64 0,.int .i64 0,.int .i64 0,.int .i64 0,.int .i64 0,.int .i64 0,.int .i64 0,.int .i64 0,.int .i64 0,.int .i64 0]).toArray rfl rfl HP3.out.free (by kernel_rfl) (by first | exact cA_one _ | simp[Value.oneCell']) ?_;change wpList _ _ _ _ _ (w3.setCells P 0 ([.int .i64 2,.slice none 0 0,.slice none 0 0,.slice none 0 0,.int .i64 M.S,.slice M.q M.n M.c,.int .i64 0,.int .i64 0,.int .i64 0,.int .i64 0,.int .i64 0,.int .i64 0,.int .i64 0,.int .i64 0,.int .i64 0,.int .i64 0,.int .i64 0,.int .i64 0,.int .i64 0,.int .i64 0,.int .i64 0,.int .i64 0,.int .i64 0,.int .i64 0]));have HPz:Hid (Own P ([.int .i64 2,.slice none 0 0,.slice none 0 0,.slice none 0 0,.int .i64 M.S,.slice M.q M.n M.c,.int .i64 0,.int .i64 0,.int .i64 0,.int .i64 0,.int .i64 0,.int .i64 0,.int .i64 0,.int .i64 0,.int .i64 0,.int .i64 0,.int .i64 0,.int .i64 0,.int .i64 0,.int .i64 0,.int .i64 0,.int .i64 0,.int .i64 0,.int .i64 0]) (w3.setCells P 0 ([.int .i64 2,.slice none 0 0,.slice none 0 0,.slice none 0 0,.int .i64 M.S,.slice M.q M.n M.c,.int .i64 0,.int .i64 0,.int .i64 0,.int .i64 0,.int .i64 0,.int .i64 0,.int .i64 0,.int .i64 0,.int .i64 0,.int .i64 0,.int .i64 0,.int .i64 0,.int .i64 0,.int .i64 0,.int .i64 0,.int .i64 0,.int .i64 0,.int .i64 0]))):=Lib.hid (Own.store HP3.out rfl);have MMz:=Lib.hid (TxAt.self MM3.out HP3.out);have hBz:Below w.heap.size w (w3.setCells P 0 ([.int .i64 2,.slice none 0 0,.slice none 0 0,.slice none 0 0,.int .i64 M.S,.slice M.q M.n M.c,.int .i64 0,.int .i64 0,.int .i64 0,.int .i64 0,.int .i64 0,.int .i64 0,.int .i64 0,.int .i64 0,.int .i64 0,.int .i64 0,.int .i64 0,.int .i64 0,.int .i64 0,.int .i64 0,.int .i64 0,.int .i64 0,.int .i64 0,.int .i64 0])):=Below.setCells hB3 Pw _ _;generalize w3.setCells P 0 ([.int .i64 2,.slice none 0 0,.slice none 0 0,.slice none 0 0,.int .i64 M.S,.slice M.q M.n M.c,.int .i64 0,.int .i64 0,.int .i64 0,.int .i64 0,.int .i64 0,.int .i64 0,.int .i64 0,.int .i64 0,.int .i64 0,.int .i64 0,.int .i64 0,.int .i64 0,.int .i64 0,.int .i64 0,.int .i64 0,.int .i64 0,.int .i64 0,.int .i64 0])=wz at *))
 have hL:=run_loadVar_mid (P:=Tryz.prog) _ P 0 45 ([.int .i64 2,.slice none 0 0,.slice none 0 0,.slice none 0 0,.int .i64 M.S,.slice M.q M.n M.c,.int .i64 0,.int .i64 0,.int .i64 0,.int .i64 0,.int .i64 0,.int .i64 0,.int .i64 0,.int .i64 0,.int .i64 0,.int .i64 0,.int .i64 0,.int .i64 0,.int .i64 0,.int .i64 0,.int .i64 0,.int .i64 0,.int .i64 0,.int .i64 0]) _ HPz.out.cell Tryz.underlying45 rfl (by kernel_rfl)
 exact bodyPost_ret (v := .tuple #[.agg ([.int .i64 2,.slice none 0 0,.slice none 0 0,.slice none 0 0,.int .i64 M.S,.slice M.q M.n M.c,.int .i64 0,.int .i64 0,.int .i64 0,.int .i64 0,.int .i64 0,.int .i64 0,.int .i64 0,.int .i64 0,.int .i64 0,.int .i64 0,.int .i64 0,.int .i64 0,.int .i64 0,.int .i64 0,.int .i64 0,.int .i64 0,.int .i64 0,.int .i64 0]).toArray,.int .i64 z]) (res_two Tryz.results78 rfl hL rfl) rfl ⟨⟨M,rfl,MMz.out,DD.out,FU.out⟩,hBz⟩
set_option maxHeartbeats 8000000 in
theorem decode_3 (F:Nat→Int) (q:Option Addr) (N c:Nat) (hF:∀ j,j<N→inB (F j)) (hN:N≤1200) (w:World) (hq:Byt w q N F) :
  Calls Tryz.prog 78 #[.int .i64 3,.slice q N c] w fun e w'=>e = .returned (.tuple #[(.agg #[.int .i64 3,.slice none 0 0,.slice none 0 0,.slice none 0 0,.int .i64 0,.slice none 0 0,.int .i64 (decG F N 0),.int .i64 (decG F N 1),.int .i64 (decG F N 2),.int .i64 (decG F N 3),.int .i64 (decG F N 4),.int .i64 0,.int .i64 0,.int .i64 0,.int .i64 0,.int .i64 0,.int .i64 0,.int .i64 0,.int .i64 0,.int .i64 0,.int .i64 0,.int .i64 0,.int .i64 0,.int .i64 0]),.int .i64 (endE N 9 (erN N 9))])∧Below w.heap.size w w':=by
 have HQ:=Lib.hid hq
 have CON:=Lib.hid (decMat_any F q N c hF (by omega))
 skip
 generalize decG F N 0=x0 at *
 generalize decG F N 1=x1 at *
 generalize decG F N 2=x2 at *
 generalize decG F N 3=x3 at *
 generalize decG F N 4=x4 at *
 generalize endE N 9 (erN N 9)=z at *
 clear hF hN hq
 go_enter Tryz.func78,Tryz.ntmps78
 go_upto_region 1 with fail
 obtain⟨W0,hW⟩:∃ W0,W0=(w.alloc (.cells #[.int .i64 0,.slice none 0 0,.slice none 0 0,.slice none 0 0,.int .i64 0,.slice none 0 0,.int .i64 0,.int .i64 0,.int .i64 0,.int .i64 0,.int .i64 0,.int .i64 0,.int .i64 0,.int .i64 0,.int .i64 0,.int .i64 0,.int .i64 0,.int .i64 0,.int .i64 0,.int .i64 0,.int .i64 0,.int .i64 0,.int .i64 0,.int .i64 0] 45)):=⟨_,rfl⟩
 have hB0:Below w.heap.size w W0:=hW ▸ (Below.al (Below.refl _ _))
 have HP:Hid (Own w.heap.size ([.int .i64 0,.slice none 0 0,.slice none 0 0,.slice none 0 0,.int .i64 0,.slice none 0 0,.int .i64 0,.int .i64 0,.int .i64 0,.int .i64 0,.int .i64 0,.int .i64 0,.int .i64 0,.int .i64 0,.int .i64 0,.int .i64 0,.int .i64 0,.int .i64 0,.int .i64 0,.int .i64 0,.int .i64 0,.int .i64 0,.int .i64 0,.int .i64 0]) W0):=Lib.hid (hW ▸ (show Own w.heap.size ([.int .i64 0,.slice none 0 0,.slice none 0 0,.slice none 0 0,.int .i64 0,.slice none 0 0,.int .i64 0,.int .i64 0,.int .i64 0,.int .i64 0,.int .i64 0,.int .i64 0,.int .i64 0,.int .i64 0,.int .i64 0,.int .i64 0,.int .i64 0,.int .i64 0,.int .i64 0,.int .i64 0,.int .i64 0,.int .i64 0,.int .i64 0,.int .i64 0]) (w.alloc (.cells #[.int .i64 0,.slice none 0 0,.slice none 0 0,.slice none 0 0,.int .i64 0,.slice none 0 0,.int .i64 0,.int .i64 0,.int .i64 0,.int .i64 0,.int .i64 0,.int .i64 0,.int .i64 0,.int .i64 0,.int .i64 0,.int .i64 0,.int .i64 0,.int .i64 0,.int .i64 0,.int .i64 0,.int .i64 0,.int .i64 0,.int .i64 0,.int .i64 0] 45)) from Own.newAt (by simp)))
 rw[← hW]
 clear hW
 obtain⟨P,eP⟩:∃ X,X=w.heap.size:=⟨_,rfl⟩
 rw[← eP] at HP ⊢
 have Pw:w.heap.size≤P:=by omega
 clear eP
 have oP:=HP.out
 have P0:=oP.at 0 _ rfl
 have Pf0:=oP.ok 0 (Nat.le_of_ble_eq_true rfl)
 have Pl:=oP.lt
 clear oP
 go_upto_region 2 with fail
 clear P0 Pf0 Pl
 rw[show (W0.setCell ⟨P,0,none⟩ (.int .i64 3))=W0.setCells P 0 [.int .i64 3] from rfl]
 have HP1:Hid (Own P ([.int .i64 3,.slice none 0 0,.slice none 0 0,.slice none 0 0,.int .i64 0,.slice none 0 0,.int .i64 0,.int .i64 0,.int .i64 0,.int .i64 0,.int .i64 0,.int .i64 0,.int .i64 0,.int .i64 0,.int .i64 0,.int .i64 0,.int .i64 0,.int .i64 0,.int .i64 0,.int .i64 0,.int .i64 0,.int .i64 0,.int .i64 0,.int .i64 0]) (W0.setCells P 0 [.int .i64 3])):=Lib.hid (show Own P (over _ 0 [.int .i64 3]) _ from Own.part HP.out (Nat.le_of_ble_eq_true rfl))
 have hB1:Below w.heap.size w (W0.setCells P 0 [.int .i64 3]):=Below.setCells hB0 Pw _ _
 clear HP hB0
 generalize W0.setCells P 0 [.int .i64 3]=w1 at *
 go_wp2_with (fail)
 go_at_call 118
 refine (CON.out _ (HQ.out.later hB1)).mono ?_
 rintro e w2 ⟨rfl,hb⟩
 have HP2:=Lib.hid (HP1.out.later hb);have hB2:=Below.go hB1 hb
 skip
 clear hb HP1 hB1 HQ CON
 have oP:=HP2.out
 have P6:=oP.at 6 _ rfl
 have Pf6:=oP.ok 6 (Nat.le_of_ble_eq_true rfl)
 have P7:=oP.at 7 _ rfl
 have Pf7:=oP.ok 7 (Nat.le_of_ble_eq_true rfl)
 have P8:=oP.at 8 _ rfl
 have Pf8:=oP.ok 8 (Nat.le_of_ble_eq_true rfl)
 have P9:=oP.at 9 _ rfl
 have Pf9:=oP.ok 9 (Nat.le_of_ble_eq_true rfl)
 have P10:=oP.at 10 _ rfl
 have Pf10:=oP.ok 10 (Nat.le_of_ble_eq_true rfl)
 have Pl:=oP.lt
 clear oP
 go_upto_region 12 with fail
 clear P6 Pf6 P7 Pf7 P8 Pf8 P9 Pf9 P10 Pf10 Pl
 rw[show (((((w2.setCell ⟨P,6,none⟩ (.int .i64 x0)).setCell ⟨P,7,none⟩ (.int .i64 x1)).setCell ⟨P,8,none⟩ (.int .i64 x2)).setCell ⟨P,9,none⟩ (.int .i64 x3)).setCell ⟨P,10,none⟩ (.int .i64 x4))=w2.setCells P 6 [.int .i64 x0,.int .i64 x1,.int .i64 x2,.int .i64 x3,.int .i64 x4] from rfl]
 have HP3:Hid (Own P ([.int .i64 3,.slice none 0 0,.slice none 0 0,.slice none 0 0,.int .i64 0,.slice none 0 0,.int .i64 x0,.int .i64 x1,.int .i64 x2,.int .i64 x3,.int .i64 x4,.int .i64 0,.int .i64 0,.int .i64 0,.int .i64 0,.int .i64 0,.int .i64 0,.int .i64 0,.int .i64 0,.int .i64 0,.int .i64 0,.int .i64 0,.int .i64 0,.int .i64 0]) (w2.setCells P 6 [.int .i64 x0,.int .i64 x1,.int .i64 x2,.int .i64 x3,.int .i64 x4])):=Lib.hid (show Own P (over _ 6 [.int .i64 x0,.int .i64 x1,.int .i64 x2,.int .i64 x3,.int .i64 x4]) _ from Own.part HP2.out (Nat.le_of_ble_eq_true rfl))
 have hB3:Below w.heap.size w (w2.setCells P 6 [.int .i64 x0,.int .i64 x1,.int .i64 x2,.int .i64 x3,.int .i64 x4]):=Below.setCells hB2 Pw _ _
 clear HP2 hB2
 generalize w2.setCells P 6 [.int .i64 x0,.int .i64 x1,.int .i64 x2,.int .i64 x3,.int .i64 x4]=w3 at *
 go_wp2_with (first | (refine wpList_load_mid rfl 45 _ rfl P 0 rfl ([.int .i64 3,.slice none 0 0,.slice none 0 0,.slice none 0 0,.int .i64 0,.slice none 0 0,.int .i64 x0,.int .i64 x1,.int .i64 x2,.int .i64 x3,.int .i64 x4,.int .i64 0,.int .i64 0,.int .i64 0,.int .i64 0,.int .i64 0,.int .i64 0,.int .i64 0,.int .i64 0,.int .i64 0,.int .i64 0,.int .i64 0,.int .i64 0,.int .i64 0]) _ HP3.out.cell Tryz.underlying45 rfl (by kernel_rfl) ?_) | (refine wpList_store_mid rfl 45 _ _ rfl P 0 ([.int .i64 3,.slice none 0 0,.slice none 0 0,.slice none 0 0,.int .i64 0,.slice none 0 0,.int .i64 x0,.int .i64 x1,.int .i64 x2,.int .i64 x3,.int .i64 x4,.int .i64 0,.int .i64 0,.int .i64 0,.int .i64 0,.int .i64 0,.int .i64 0,.int .i64 0,.int .i64 0,.int .i64 0,.int .i64 0,.int .i64 0,.int .i64 0,.int .i64 0]).toArray rfl rfl HP3.out.free (by kernel_rfl) (by first | exact cA_one _ | simp[Value.oneCell']) ?_;change wpList _ _ _ _ _ (w3.setCells P 0 ([.int .i64 3,.slice none 0 0,.slice none 0 0,.slice none 0 0,.int .i64 0,.slice none 0 0,.int .i64 x0,.int .i64 x1,.int .i64 x2,.int .i64 x3,.int .i64 x4,.int .i64 0,.int .i64 0,.int .i64 0,.int .i64 0,.int .i64 0,.int .i64 0,.int .i64 0,.int .i64 0,.int .i64 0,.int .i64 0,.int .i64 0,.int .i64 0,.int .i64 0]));have HPz:Hid (Own P ([.int .i64 3,.slice none 0 0,.slice none 0 0,.slice none 0 0,.int .i64 0,.slice none 0 0,.int .i64 x0,.int .i64 x1,.int .i64 x2,.int .i64 x3,.int .i64 x4,.int .i64 0,.int .i64 0,.int .i64 0,.int .i64 0,.int .i64 0,.int .i64 0,.int .i64 0,.int .i64 0,.int .i64 0,.int .i64 0,.int .i64 0,.int .i64 0,.int .i64 0]) (w3.setCells P 0 ([.int .i64 3,.slice none 0 0,.slice none 0 0,.slice none 0 0,.int .i64 0,.slice none 0 0,.int .i64 x0,.int .i64 x1,.int .i64 x2,.int .i64 x3,.int .i64 x4,.int .i64 0,.int .i64 0,.int .i64 0,.int .i64 0,.int .i64 0,.int .i64 0,.int .i64 0,.int .i64 0,.int .i64 0,.int .i64 0,.int .i64 0,.int .i64 0,.int .i64 0]))):=Lib.hid (Own.store HP3.out rfl);have hBz:Below w.heap.size w (w3.setCells P 0 ([.int .i64 3,.slice none 0 0,.slice none 0 0,.slice none 0 0,.int .i64 0,.slice none 0 0,.int .i64 x0,.int .i64 x1,.int .i64 x2,.int .i64 x3,.int .i64 x4,.int .i64 0,.int .i64 0,.int .i64 0,.int .i64 0,.int .i64 0,.int .i64 0,.int .i64 0,.int .i64 0,.int .i64 0,.int .i64 0,.int .i64 0,.int .i64 0,.int .i64 0])):=Below.setCells hB3 Pw _ _;generalize w3.setCells P 0 ([.int .i64 3,.slice none 0 0,.slice none 0 0,.slice none 0 0,.int .i64 0,.slice none 0 0,.int .i64 x0,.int .i64 x1,.int .i64 x2,.int .i64 x3,.int .i64 x4,.int .i64 0,.int .i64 0,.int .i64 0,.int .i64 0,.int .i64 0,.int .i64 0,.int .i64 0,.int .i64 0,.int .i64 0,.int .i64 0,.int .i64 0,.int .i64 0,.int .i64 0])=wz at *))
 have hL:=run_loadVar_mid (P:=Tryz.prog) _ P 0 45 ([.int .i64 3,.slice none 0 0,.slice none 0 0,.slice none 0 0,.int .i64 0,.slice none 0 0,.int .i64 x0,.int .i64 x1,.int .i64 x2,.int .i64 x3,.int .i64 x4,.int .i64 0,.int .i64 0,.int .i64 0,.int .i64 0,.int .i64 0,.int .i64 0,.int .i64 0,.int .i64 0,.int .i64 0,.int .i64 0,.int .i64 0,.int .i64 0,.int .i64 0]) _ HPz.out.cell Tryz.underlying45 rfl (by kernel_rfl)
 exact bodyPost_ret (v := .tuple #[.agg ([.int .i64 3,.slice none 0 0,.slice none 0 0,.slice none 0 0,.int .i64 0,.slice none 0 0,.int .i64 x0,.int .i64 x1,.int .i64 x2,.int .i64 x3,.int .i64 x4,.int .i64 0,.int .i64 0,.int .i64 0,.int .i64 0,.int .i64 0,.int .i64 0,.int .i64 0,.int .i64 0,.int .i64 0,.int .i64 0,.int .i64 0,.int .i64 0,.int .i64 0]).toArray,.int .i64 z]) (res_two Tryz.results78 rfl hL rfl) rfl ⟨rfl,hBz⟩
set_option maxHeartbeats 8000000 in
theorem decode_4 (F:Nat→Int) (q:Option Addr) (N c:Nat) (hF:∀ j,j<N→inB (F j)) (hN:N≤1200) (w:World) (hq:Byt w q N F) :
  Calls Tryz.prog 78 #[.int .i64 4,.slice q N c] w fun e w'=>e = .returned (.tuple #[(.agg #[.int .i64 4,.slice none 0 0,.slice none 0 0,.slice none 0 0,.int .i64 0,.slice none 0 0,.int .i64 0,.int .i64 0,.int .i64 0,.int .i64 0,.int .i64 0,.int .i64 (decLt F N 0),.int .i64 (decLt F N 1),.int .i64 (decLt F N 2),.int .i64 (decLt F N 3),.int .i64 (decLt F N 4),.int .i64 (decLt F N 5),.int .i64 (decLt F N 6),.int .i64 (decLt F N 7),.int .i64 (decLt F N 8),.int .i64 (decLt F N 9),.int .i64 (decLt F N 10),.int .i64 (decLt F N 11),.int .i64 (decLt F N 12)]),.int .i64 (endE N 31 (erN N 31))])∧Below w.heap.size w w':=by
 have HQ:=Lib.hid hq
 have CON:=Lib.hid (decLgt_any F q N c hF (by omega))
 skip
 generalize decLt F N 0=x0 at *
 generalize decLt F N 1=x1 at *
 generalize decLt F N 2=x2 at *
 generalize decLt F N 3=x3 at *
 generalize decLt F N 4=x4 at *
 generalize decLt F N 5=x5 at *
 generalize decLt F N 6=x6 at *
 generalize decLt F N 7=x7 at *
 generalize decLt F N 8=x8 at *
 generalize decLt F N 9=x9 at *
 generalize decLt F N 10=x10 at *
 generalize decLt F N 11=x11 at *
 generalize decLt F N 12=x12 at *
 generalize endE N 31 (erN N 31)=z at *
 clear hF hN hq
 go_enter Tryz.func78,Tryz.ntmps78
 go_upto_region 1 with fail
 obtain⟨W0,hW⟩:∃ W0,W0=(w.alloc (.cells #[.int .i64 0,.slice none 0 0,.slice none 0 0,.slice none 0 0,.int .i64 0,.slice none 0 0,.int .i64 0,.int .i64 0,.int .i64 0,.int .i64 0,.int .i64 0,.int .i64 0,.int .i64 0,.int .i64 0,.int .i64 0,.int .i64 0,.int .i64 0,.int .i64 0,.int .i64 0,.int .i64 0,.int .i64 0,.int .i64 0,.int .i64 0,.int .i64 0] 45)):=⟨_,rfl⟩
 have hB0:Below w.heap.size w W0:=hW ▸ (Below.al (Below.refl _ _))
 have HP:Hid (Own w.heap.size ([.int .i64 0,.slice none 0 0,.slice none 0 0,.slice none 0 0,.int .i64 0,.slice none 0 0,.int .i64 0,.int .i64 0,.int .i64 0,.int .i64 0,.int .i64 0,.int .i64 0,.int .i64 0,.int .i64 0,.int .i64 0,.int .i64 0,.int .i64 0,.int .i64 0,.int .i64 0,.int .i64 0,.int .i64 0,.int .i64 0,.int .i64 0,.int .i64 0]) W0):=Lib.hid (hW ▸ (show Own w.heap.size ([.int .i64 0,.slice none 0 0,.slice none 0 0,.slice none 0 0,.int .i64 0,.slice none 0 0,.int .i64 0,.int .i64 0,.int .i64 0,.int .i64 0,.int .i64 0,.int .i64 0,.int .i64 0,.int .i64 0,.int .i64 0,.int .i64 0,.int .i64 0,.int .i64 0,.int .i64 0,.int .i64 0,.int .i64 0,.int .i64 0,.int .i64 0,.int .i64 0]) (w.alloc (.cells #[.int .i64 0,.slice none 0 0,.slice none 0 0,.slice none 0 0,.int .i64 0,.slice none 0 0,.int .i64 0,.int .i64 0,.int .i64 0,.int .i64 0,.int .i64 0,.int .i64 0,.int .i64 0,.int .i64 0,.int .i64 0,.int .i64 0,.int .i64 0,.int .i64 0,.int .i64 0,.int .i64 0,.int .i64 0,.int .i64 0,.int .i64 0,.int .i64 0] 45)) from Own.newAt (by simp)))
 rw[← hW]
 clear hW
 obtain⟨P,eP⟩:∃ X,X=w.heap.size:=⟨_,rfl⟩
 rw[← eP] at HP ⊢
 have Pw:w.heap.size≤P:=by omega
 clear eP
 have oP:=HP.out
 have P0:=oP.at 0 _ rfl
 have Pf0:=oP.ok 0 (Nat.le_of_ble_eq_true rfl)
 have Pl:=oP.lt
 clear oP
 go_upto_region 2 with fail
 clear P0 Pf0 Pl
 rw[show (W0.setCell ⟨P,0,none⟩ (.int .i64 4))=W0.setCells P 0 [.int .i64 4] from rfl]
 have HP1:Hid (Own P ([.int .i64 4,.slice none 0 0,.slice none 0 0,.slice none 0 0,.int .i64 0,.slice none 0 0,.int .i64 0,.int .i64 0,.int .i64 0,.int .i64 0,.int .i64 0,.int .i64 0,.int .i64 0,.int .i64 0,.int .i64 0,.int .i64 0,.int .i64 0,.int .i64 0,.int .i64 0,.int .i64 0,.int .i64 0,.int .i64 0,.int .i64 0,.int .i64 0]) (W0.setCells P 0 [.int .i64 4])):=Lib.hid (show Own P (over _ 0 [.int .i64 4]) _ from Own.part HP.out (Nat.le_of_ble_eq_true rfl))
 have hB1:Below w.heap.size w (W0.setCells P 0 [.int .i64 4]):=Below.setCells hB0 Pw _ _
 clear HP hB0
 generalize W0.setCells P 0 [.int .i64 4]=w1 at *
 go_wp2_with (fail)
 go_at_call 119
 refine (CON.out _ (HQ.out.later hB1)).mono ?_
 rintro e w2 ⟨rfl,hb⟩
 have HP2:=Lib.hid (HP1.out.later hb);have hB2:=Below.go hB1 hb
 skip
 clear hb HP1 hB1 HQ CON
 have oP:=HP2.out
 have P11:=oP.at 11 _ rfl
 have Pf11:=oP.ok 11 (Nat.le_of_ble_eq_true rfl)
 have P12:=oP.at 12 _ rfl
 have Pf12:=oP.ok 12 (Nat.le_of_ble_eq_true rfl)
 have P13:=oP.at 13 _ rfl
 have Pf13:=oP.ok 13 (Nat.le_of_ble_eq_true rfl)
 have P14:=oP.at 14 _ rfl
 have Pf14:=oP.ok 14 (Nat.le_of_ble_eq_true rfl)
 have P15:=oP.at 15 _ rfl
 have Pf15:=oP.ok 15 (Nat.le_of_ble_eq_true rfl)
 have P16:=oP.at 16 _ rfl
 have Pf16:=oP.ok 16 (Nat.le_of_ble_eq_true rfl)
 have P17:=oP.at 17 _ rfl
 have Pf17:=oP.ok 17 (Nat.le_of_ble_eq_true rfl)
 have P18:=oP.at 18 _ rfl
 have Pf18:=oP.ok 18 (Nat.le_of_ble_eq_true rfl)
 have P19:=oP.at 19 _ rfl
 have Pf19:=oP.ok 19 (Nat.le_of_ble_eq_true rfl)
 have P20:=oP.at 20 _ rfl
 have Pf20:=oP.ok 20 (Nat.le_of_ble_eq_true rfl)
 have P21:=oP.at 21 _ rfl
 have Pf21:=oP.ok 21 (Nat.le_of_ble_eq_true rfl)
 have P22:=oP.at 22 _ rfl
 have Pf22:=oP.ok 22 (Nat.le_of_ble_eq_true rfl)
 have P23:=oP.at 23 _ rfl
 have Pf23:=oP.ok 23 (Nat.le_of_ble_eq_true rfl)
 have Pl:=oP.lt
 clear oP
 go_upto_region 12 with fail
 clear P11 Pf11 P12 Pf12 P13 Pf13 P14 Pf14 P15 Pf15 P16 Pf16 P17 Pf17 P18 Pf18 P19 Pf19 P20 Pf20 P21 Pf21 P22 Pf22 P23 Pf23 Pl
 rw[show (((((((((((((w2.setCell ⟨P,11,none⟩ (.int .i64 x0)).setCell ⟨P,12,none⟩ (.int .i64 x1)).setCell ⟨P,13,none⟩ (.int .i64 x2)).setCell ⟨P,14,none⟩ (.int .i64 x3)).setCell ⟨P,15,none⟩ (.int .i64 x4)).setCell ⟨P,16,none⟩ (.int .i64 x5)).setCell ⟨P,17,none⟩ (.int .i64 x6)).setCell ⟨P,18,none⟩ (.int .i64 x7)).setCell ⟨P,19,none⟩ (.int .i64 x8)).setCell ⟨P,20,none⟩ (.int .i64 x9)).setCell ⟨P,21,none⟩ (.int .i64 x10)).setCell ⟨P,22,none⟩ (.int .i64 x11)).setCell ⟨P,23,none⟩ (.int .i64 x12))=w2.setCells P 11 [.int .i64 x0,.int .i64 x1,.int .i64 x2,.int .i64 x3,.int .i64 x4,.int .i64 x5,.int .i64 x6,.int .i64 x7,.int .i64 x8,.int .i64 x9,.int .i64 x10,.int .i64 x11,.int .i64 x12] from rfl]
 have HP3:Hid (Own P ([.int .i64 4,.slice none 0 0,.slice none 0 0,.slice none 0 0,.int .i64 0,.slice none 0 0,.int .i64 0,.int .i64 0,.int .i64 0,.int .i64 0,.int .i64 0,.int .i64 x0,.int .i64 x1,.int .i64 x2,.int .i64 x3,.int .i64 x4,.int .i64 x5,.int .i64 x6,.int .i64 x7,.int .i64 x8,.int .i64 x9,.int .i64 x10,.int .i64 x11,.int .i64 x12]) (w2.setCells P 11 [.int .i64 x0,.int .i64 x1,.int .i64 x2,.int .i64 x3,.int .i64 x4,.int .i64 x5,.int .i64 x6,.int .i64 x7,.int .i64 x8,.int .i64 x9,.int .i64 x10,.int .i64 x11,.int .i64 x12])):=Lib.hid (show Own P (over _ 11 [.int .i64 x0,.int .i64 x1,.int .i64 x2,.int .i64 x3,.int .i64 x4,.int .i64 x5,.int .i64 x6,.int .i64 x7,.int .i64 x8,.int .i64 x9,.int .i64 x10,.int .i64 x11,.int .i64 x12]) _ from Own.part HP2.out (Nat.le_of_ble_eq_true rfl))
 have hB3:Below w.heap.size w (w2.setCells P 11 [.int .i64 x0,.int .i64 x1,.int .i64 x2,.int .i64 x3,.int .i64 x4,.int .i64 x5,.int .i64 x6,.int .i64 x7,.int .i64 x8,.int .i64 x9,.int .i64 x10,.int .i64 x11,.int .i64 x12]):=Below.setCells hB2 Pw _ _
 clear HP2 hB2
 generalize w2.setCells P 11 [.int .i64 x0,.int .i64 x1,.int .i64 x2,.int .i64 x3,.int .i64 x4,.int .i64 x5,.int .i64 x6,.int .i64 x7,.int .i64 x8,.int .i64 x9,.int .i64 x10,.int .i64 x11,.int .i64 x12]=w3 at *
 go_wp2_with (first | (refine wpList_load_mid rfl 45 _ rfl P 0 rfl ([.int .i64 4,.slice none 0 0,.slice none 0 0,.slice none 0 0,.int .i64 0,.slice none 0 0,.int .i64 0,.int .i64 0,.int .i64 0,.int .i64 0,.int .i64 0,.int .i64 x0,.int .i64 x1,.int .i64 x2,.int .i64 x3,.int .i64 x4,.int .i64 x5,.int .i64 x6,.int .i64 x7,.int .i64 x8,.int .i64 x9,.int .i64 x10,.int .i64 x11,.int .i64 x12]) _ HP3.out.cell Tryz.underlying45 rfl (by kernel_rfl) ?_) | (refine wpList_store_mid rfl 45 _ _ rfl P 0 ([.int .i64 4,.slice none 0 0,.slice none 0 0,.slice none 0 0,.int .i64 0,.slice none 0 0,.int .i64 0,.int .i64 0,.int .i64 0,.int .i64 0,.int .i64 0,.int .i64 x0,.int .i64 x1,.int .i64 x2,.int .i64 x3,.int .i64 x4,.int .i64 x5,.int .i64 x6,.int .i64 x7,.int .i64 x8,.int .i64 x9,.int .i64 x10,.int .i64 x11,.int .i64 x12]).toArray rfl rfl HP3.out.free (by kernel_rfl) (by first | exact cA_one _ | simp[Value.oneCell']) ?_;change wpList _ _ _ _ _ (w3.setCells P 0 ([.int .i64 4,.slice none 0 0,.slice none 0 0,.slice none 0 0,.int .i64 0,.slice none 0 0,.int .i64 0,.int .i64 0,.int .i64 0,.int .i64 0,.int .i64 0,.int .i64 x0,.int .i64 x1,.int .i64 x2,.int .i64 x3,.int .i64 x4,.int .i64 x5,.int .i64 x6,.int .i64 x7,.int .i64 x8,.int .i64 x9,.int .i64 x10,.int .i64 x11,.int .i64 x12]));have HPz:Hid (Own P ([.int .i64 4,.slice none 0 0,.slice none 0 0,.slice none 0 0,.int .i64 0,.slice none 0 0,.int .i64 0,.int .i64 0,.int .i64 0,.int .i64 0,.int .i64 0,.int .i64 x0,.int .i64 x1,.int .i64 x2,.int .i64 x3,.int .i64 x4,.int .i64 x5,.int .i64 x6,.int .i64 x7,.int .i64 x8,.int .i64 x9,.int .i64 x10,.int .i64 x11,.int .i64 x12]) (w3.setCells P 0 ([.int .i64 4,.slice none 0 0,.slice none 0 0,.slice none 0 0,.int .i64 0,.slice none 0 0,.int .i64 0,.int .i64 0,.int .i64 0,.int .i64 0,.int .i64 0,.int .i64 x0,.int .i64 x1,.int .i64 x2,.int .i64 x3,.int .i64 x4,.int .i64 x5,.int .i64 x6,.int .i64 x7,.int .i64 x8,.int .i64 x9,.int .i64 x10,.int .i64 x11,.int .i64 x12]))):=Lib.hid (Own.store HP3.out rfl);have hBz:Below w.heap.size w (w3.setCells P 0 ([.int .i64 4,.slice none 0 0,.slice none 0 0,.slice none 0 0,.int .i64 0,.slice none 0 0,.int .i64 0,.int .i64 0,.int .i64 0,.int .i64 0,.int .i64 0,.int .i64 x0,.int .i64 x1,.int .i64 x2,.int .i64 x3,.int .i64 x4,.int .i64 x5,.int .i64 x6,.int .i64 x7,.int .i64 x8,.int .i64 x9,.int .i64 x10,.int .i64 x11,.int .i64 x12])):=Below.setCells hB3 Pw _ _;generalize w3.setCells P 0 ([.int .i64 4,.slice none 0 0,.slice none 0 0,.slice none 0 0,.int .i64 0,.slice none 0 0,.int .i64 0,.int .i64 0,.int .i64 0,.int .i64 0,.int .i64 0,.int .i64 x0,.int .i64 x1,.int .i64 x2,.int .i64 x3,.int .i64 x4,.int .i64 x5,.int .i64 x6,.int .i64 x7,.int .i64 x8,.int .i64 x9,.int .i64 x10,.int .i64 x11,.int .i64 x12])=wz at *))
 have hL:=run_loadVar_mid (P:=Tryz.prog) _ P 0 45 ([.int .i64 4,.slice none 0 0,.slice none 0 0,.slice none 0 0,.int .i64 0,.slice none 0 0,.int .i64 0,.int .i64 0,.int .i64 0,.int .i64 0,.int .i64 0,.int .i64 x0,.int .i64 x1,.int .i64 x2,.int .i64 x3,.int .i64 x4,.int .i64 x5,.int .i64 x6,.int .i64 x7,.int .i64 x8,.int .i64 x9,.int .i64 x10,.int .i64 x11,.int .i64 x12]) _ HPz.out.cell Tryz.underlying45 rfl (by kernel_rfl)
 exact bodyPost_ret (v := .tuple #[.agg ([.int .i64 4,.slice none 0 0,.slice none 0 0,.slice none 0 0,.int .i64 0,.slice none 0 0,.int .i64 0,.int .i64 0,.int .i64 0,.int .i64 0,.int .i64 0,.int .i64 x0,.int .i64 x1,.int .i64 x2,.int .i64 x3,.int .i64 x4,.int .i64 x5,.int .i64 x6,.int .i64 x7,.int .i64 x8,.int .i64 x9,.int .i64 x10,.int .i64 x11,.int .i64 x12]).toArray,.int .i64 z]) (res_two Tryz.results78 rfl hL rfl) rfl ⟨rfl,hBz⟩
end Go.Proofs.YtbilamnnneddmaaGreatDoor
namespace Go.Proofs.YtbilamnnneddmaaGreatDoor
set_option linter.unusedVariables false
set_option maxRecDepth 2000
set_option linter.unusedSimpArgs false
open Go.RowKit
set_option maxHeartbeats 8000000 in
theorem decode_0 (k:Int) (hk:k≠1∧k≠2∧k≠3∧k≠4) (q:Option Addr) (N c:Nat) (w:World) :
  Calls Tryz.prog 78 #[.int .i64 k,.slice q N c] w fun e w'=>e = .returned (.tuple #[(.agg #[.int .i64 k,.slice none 0 0,.slice none 0 0,.slice none 0 0,.int .i64 0,.slice none 0 0,.int .i64 0,.int .i64 0,.int .i64 0,.int .i64 0,.int .i64 0,.int .i64 0,.int .i64 0,.int .i64 0,.int .i64 0,.int .i64 0,.int .i64 0,.int .i64 0,.int .i64 0,.int .i64 0,.int .i64 0,.int .i64 0,.int .i64 0,.int .i64 0]),.int .i64 12])∧Below w.heap.size w w':=by
 have d1:(k == 1)=false:=by simpa using hk.1
 have d2:(k == 2)=false:=by simpa using hk.2.1
 have d3:(k == 3)=false:=by simpa using hk.2.2.1
 have d4:(k == 4)=false:=by simpa using hk.2.2.2
 clear hk
 go_enter Tryz.func78,Tryz.ntmps78
 go_upto_region 1 with fail
 obtain⟨W0,hW⟩:∃ W0,W0=(w.alloc (.cells #[.int .i64 0,.slice none 0 0,.slice none 0 0,.slice none 0 0,.int .i64 0,.slice none 0 0,.int .i64 0,.int .i64 0,.int .i64 0,.int .i64 0,.int .i64 0,.int .i64 0,.int .i64 0,.int .i64 0,.int .i64 0,.int .i64 0,.int .i64 0,.int .i64 0,.int .i64 0,.int .i64 0,.int .i64 0,.int .i64 0,.int .i64 0,.int .i64 0] 45)):=⟨_,rfl⟩
 have hB0:Below w.heap.size w W0:=hW ▸ (Below.al (Below.refl _ _))
 have HP:Hid (Own w.heap.size ([.int .i64 0,.slice none 0 0,.slice none 0 0,.slice none 0 0,.int .i64 0,.slice none 0 0,.int .i64 0,.int .i64 0,.int .i64 0,.int .i64 0,.int .i64 0,.int .i64 0,.int .i64 0,.int .i64 0,.int .i64 0,.int .i64 0,.int .i64 0,.int .i64 0,.int .i64 0,.int .i64 0,.int .i64 0,.int .i64 0,.int .i64 0,.int .i64 0]) W0):=Lib.hid (hW ▸ (show Own w.heap.size ([.int .i64 0,.slice none 0 0,.slice none 0 0,.slice none 0 0,.int .i64 0,.slice none 0 0,.int .i64 0,.int .i64 0,.int .i64 0,.int .i64 0,.int .i64 0,.int .i64 0,.int .i64 0,.int .i64 0,.int .i64 0,.int .i64 0,.int .i64 0,.int .i64 0,.int .i64 0,.int .i64 0,.int .i64 0,.int .i64 0,.int .i64 0,.int .i64 0]) (w.alloc (.cells #[.int .i64 0,.slice none 0 0,.slice none 0 0,.slice none 0 0,.int .i64 0,.slice none 0 0,.int .i64 0,.int .i64 0,.int .i64 0,.int .i64 0,.int .i64 0,.int .i64 0,.int .i64 0,.int .i64 0,.int .i64 0,.int .i64 0,.int .i64 0,.int .i64 0,.int .i64 0,.int .i64 0,.int .i64 0,.int .i64 0,.int .i64 0,.int .i64 0] 45)) from Own.newAt (by simp)))
 rw[← hW]
 clear hW
 obtain⟨P,eP⟩:∃ X,X=w.heap.size:=⟨_,rfl⟩
 rw[← eP] at HP ⊢
 have Pw:w.heap.size≤P:=by omega
 clear eP
 have oP:=HP.out
 have P0:=oP.at 0 _ rfl
 have Pf0:=oP.ok 0 (Nat.le_of_ble_eq_true rfl)
 have Pl:=oP.lt
 clear oP
 go_upto_region 2 with fail
 clear P0 Pf0 Pl
 rw[show (W0.setCell ⟨P,0,none⟩ (.int .i64 k))=W0.setCells P 0 [.int .i64 k] from rfl]
 have HP3:Hid (Own P ([.int .i64 k,.slice none 0 0,.slice none 0 0,.slice none 0 0,.int .i64 0,.slice none 0 0,.int .i64 0,.int .i64 0,.int .i64 0,.int .i64 0,.int .i64 0,.int .i64 0,.int .i64 0,.int .i64 0,.int .i64 0,.int .i64 0,.int .i64 0,.int .i64 0,.int .i64 0,.int .i64 0,.int .i64 0,.int .i64 0,.int .i64 0,.int .i64 0]) (W0.setCells P 0 [.int .i64 k])):=Lib.hid (show Own P (over _ 0 [.int .i64 k]) _ from Own.part HP.out (Nat.le_of_ble_eq_true rfl))
 have hB3:Below w.heap.size w (W0.setCells P 0 [.int .i64 k]):=Below.setCells hB0 Pw _ _
 clear HP hB0
 generalize W0.setCells P 0 [.int .i64 k]=w3 at *
 go_upto_region 12 with fail
 go_wp2_with (first | (refine wpList_load_mid rfl 45 _ rfl P 0 rfl ([.int .i64 k,.slice none 0 0,.slice none 0 0,.slice none 0 0,.int .i64 0,.slice none 0 0,.int .i64 0,.int .i64 0,.int .i64 0,.int .i64 0,.int .i64 0,.int .i64 0,.int .i64 0,.int .i64 0,.int .i64 0,.int .i64 0,.int .i64 0,.int .i64 0,.int .i64 0,.int .i64 0,.int .i64 0,.int .i64 0,.int .i64 0,.int .i64 0]) _ HP3.out.cell Tryz.underlying45 rfl (by kernel_rfl) ?_) | (refine wpList_store_mid rfl 45 _ _ rfl P 0 ([.int .i64 k,.slice none 0 0,.slice none 0 0,.slice none 0 0,.int .i64 0,.slice none 0 0,.int .i64 0,.int .i64 0,.int .i64 0,.int .i64 0,.int .i64 0,.int .i64 0,.int .i64 0,.int .i64 0,.int .i64 0,.int .i64 0,.int .i64 0,.int .i64 0,.int .i64 0,.int .i64 0,.int .i64 0,.int .i64 0,.int .i64 0,.int .i64 0]).toArray rfl rfl HP3.out.free (by kernel_rfl) (by first | exact cA_one _ | simp[Value.oneCell']) ?_;change wpList _ _ _ _ _ (w3.setCells P 0 ([.int .i64 k,.slice none 0 0,.slice none 0 0,.slice none 0 0,.int .i64 0,.slice none 0 0,.int .i64 0,.int .i64 0,.int .i64 0,.int .i64 0,.int .i64 0,.int .i64 0,.int .i64 0,.int .i64 0,.int .i64 0,.int .i64 0,.int .i64 0,.int .i64 0,.int .i64 0,.int .i64 0,.int .i64 0,.int .i64 0,.int .i64 0,.int .i64 0]));have HPz:Hid (Own P ([.int .i64 k,.slice none 0 0,.slice none 0 0,.slice none 0 0,.int .i64 0,.slice none 0 0,.int .i64 0,.int .i64 0,.int .i64 0,.int .i64 0,.int .i64 0,.int .i64 0,.int .i64 0,.int .i64 0,.int .i64 0,.int .i64 0,.int .i64 0,.int .i64 0,.int .i64 0,.int .i64 0,.int .i64 0,.int .i64 0,.int .i64 0,.int .i64 0]) (w3.setCells P 0 ([.int .i64 k,.slice none 0 0,.slice none 0 0,.slice none 0 0,.int .i64 0,.slice none 0 0,.int .i64 0,.int .i64 0,.int .i64 0,.int .i64 0,.int .i64 0,.int .i64 0,.int .i64 0,.int .i64 0,.int .i64 0,.int .i64 0,.int .i64 0,.int .i64 0,.int .i64 0,.int .i64 0,.int .i64 0,.int .i64 0,.int .i64 0,.int .i64 0]))):=Lib.hid (Own.store HP3.out rfl);have hBz:Below w.heap.size w (w3.setCells P 0 ([.int .i64 k,.slice none 0 0,.slice none 0 0,.slice none 0 0,.int .i64 0,.slice none 0 0,.int .i64 0,.int .i64 0,.int .i64 0,.int .i64 0,.int .i64 0,.int .i64 0,.int .i64 0,.int .i64 0,.int .i64 0,.int .i64 0,.int .i64 0,.int .i64 0,.int .i64 0,.int .i64 0,.int .i64 0,.int .i64 0,.int .i64 0,.int .i64 0])):=Below.setCells hB3 Pw _ _;generalize w3.setCells P 0 ([.int .i64 k,.slice none 0 0,.slice none 0 0,.slice none 0 0,.int .i64 0,.slice none 0 0,.int .i64 0,.int .i64 0,.int .i64 0,.int .i64 0,.int .i64 0,.int .i64 0,.int .i64 0,.int .i64 0,.int .i64 0,.int .i64 0,.int .i64 0,.int .i64 0,.int .i64 0,.int .i64 0,.int .i64 0,.int .i64 0,.int .i64 0,.int .i64 0])=wz at *))
 have hL:=run_loadVar_mid (P:=Tryz.prog) _ P 0 45 ([.int .i64 k,.slice none 0 0,.slice none 0 0,.slice none 0 0,.int .i64 0,.slice none 0 0,.int .i64 0,.int .i64 0,.int .i64 0,.int .i64 0,.int .i64 0,.int .i64 0,.int .i64 0,.int .i64 0,.int .i64 0,.int .i64 0,.int .i64 0,.int .i64 0,.int .i64 0,.int .i64 0,.int .i64 0,.int .i64 0,.int .i64 0,.int .i64 0]) _ HPz.out.cell Tryz.underlying45 rfl (by kernel_rfl)
 exact bodyPost_ret (v := .tuple #[.agg ([.int .i64 k,.slice none 0 0,.slice none 0 0,.slice none 0 0,.int .i64 0,.slice none 0 0,.int .i64 0,.int .i64 0,.int .i64 0,.int .i64 0,.int .i64 0,.int .i64 0,.int .i64 0,.int .i64 0,.int .i64 0,.int .i64 0,.int .i64 0,.int .i64 0,.int .i64 0,.int .i64 0,.int .i64 0,.int .i64 0,.int .i64 0,.int .i64 0]).toArray,.int .i64 12]) (res_two Tryz.results78 rfl hL rfl) rfl ⟨rfl,hBz⟩
theorem few_kin (k:Int):FewA (kinA k):=⟨Nat.zero_le _,Nat.zero_le _,Nat.zero_le _,Nat.zero_le _⟩
theorem decA_0 {k:Int} (hk:k≠1∧k≠2∧k≠3∧k≠4) (F:Nat→Int) (N:Nat):decA k F N=kinA k:=by
 unfold decA
 rw[if_neg hk.1,if_neg hk.2.1,if_neg hk.2.2.1,if_neg hk.2.2.2]
theorem decZ_0 {k:Int} (hk:k≠1∧k≠2∧k≠3∧k≠4) (F:Nat→Int) (N:Nat):decZ k F N=12:=by
 unfold decZ
 rw[if_neg hk.1,if_neg hk.2.1,if_neg hk.2.2.1,if_neg hk.2.2.2]
def FrA (B:Nat) (A:Ast):Prop:=FrU B A.M∧FrQ B A.X.n A.X.q
theorem FrA.mono {B C:Nat} {A:Ast} (h:FrA C A) (hb:B≤C):FrA B A:=⟨h.1.mono hb,h.2.mono hb⟩
def LoneA (A:Ast):Prop:=(A.g=(fun _=>0)∧A.l=(fun _=>0))∨(A.M.nv=0∧A.M.nu=0∧A.M.nt=0∧A.X.n=0)
theorem fewM_dec {F:Nat→Int} {N:Nat} (hF:∀ j,j<N→inB (F j)) {M:Msh} (h:DecM F N M):M.nv≤255∧M.nu≤255∧M.nt≤255:=by
 have a:=(dcN_val hF 0).2;have b:=(dcN_val hF 1).2
 by_cases e:decE F N=0
 ·obtain⟨h1,h2,h3,_⟩:=h.yes e
  rw[h1,h2,h3]
  exact⟨a,a,b⟩
 ·obtain⟨h1,h2,h3⟩:=h.no e
  rw[h1,h2,h3]
  decide
theorem decode_any (k:Int) (F:Nat→Int) (q:Option Addr) (N c:Nat) (hF:∀ j,j<N→inB (F j)) (hN:N≤1200) (w:World) (hq:Byt w q N F) :
  Calls Tryz.prog 78 #[.int .i64 k,.slice q N c] w fun e w'=>(∃ A,e = .returned (.tuple #[(.agg (cA A).toArray),.int .i64 (decZ k F N)])∧AstAt A w'∧FewA A∧LoneA A∧FrA w.heap.size A∧(decZ k F N=0→EqA A (decA k F N)))∧Below w.heap.size w w':=by
 by_cases k1:k=1
 ·subst k1
  refine (decode_1 F q N c hF hN w hq).mono ?_
  rintro e w' ⟨⟨M,rfl,hM,hD,hU⟩,hb⟩
  have f:=fewM_dec hF hD
  refine⟨⟨⟨1,M,nilX,fun _=>0,fun _=>0⟩,rfl,⟨hM,nilX_at _⟩,⟨Nat.le_trans f.1 (by decide),Nat.le_trans f.2.1 (by decide),Nat.le_trans f.2.2 (by decide),Nat.zero_le _⟩,.inl ⟨rfl,rfl⟩,⟨hU,.inl rfl⟩,fun hz=>?_⟩,hb⟩
  obtain⟨h1,h2,h3,h4,h5,h6⟩:=hD.yes hz
  obtain⟨qv,nv,cv,V,qu,nu,cu,U,qt,nt,ct,R⟩:=M
  dsimp only at h1 h2 h3 h4 h5 h6
  subst h1 h2 h3 h4 h5 h6
  exact⟨rfl,⟨rfl,fun _ _=>rfl⟩,⟨rfl,fun _ _=>rfl⟩,⟨rfl,fun _ _=>rfl⟩,rfl,⟨rfl,fun _ _=>rfl⟩,fun _ _=>rfl,fun _ _=>rfl⟩
 ·by_cases k2:k=2
  ·subst k2
   refine (decode_2 F q N c hF hN w hq).mono ?_
   rintro e w' ⟨⟨M,rfl,hM,hD,hU⟩,hb⟩
   refine⟨⟨⟨2,nilM,M,fun _=>0,fun _=>0⟩,rfl,⟨nilM_at _,hM⟩,⟨Nat.zero_le _,Nat.zero_le _,Nat.zero_le _,by have:=dec_n hD;show M.n≤_;omega⟩,.inl ⟨rfl,rfl⟩,⟨FrU.nil _,hU⟩,fun hz=>?_⟩,hb⟩
   exact⟨rfl,⟨rfl,fun _ _=>rfl⟩,⟨rfl,fun _ _=>rfl⟩,⟨rfl,fun _ _=>rfl⟩,hD.S,⟨hD.n,hD.f⟩,fun _ _=>rfl,fun _ _=>rfl⟩
  ·by_cases k3:k=3
   ·subst k3
    refine (decode_3 F q N c hF hN w hq).mono ?_
    rintro e w' ⟨rfl,hb⟩
    exact⟨⟨⟨3,nilM,nilX,decG F N,fun _=>0⟩,rfl,⟨nilM_at _,nilX_at _⟩,⟨Nat.zero_le _,Nat.zero_le _,Nat.zero_le _,Nat.zero_le _⟩,.inr ⟨rfl,rfl,rfl,rfl⟩,⟨FrU.nil _,.inl rfl⟩,fun hz=>EqA.refl _⟩,hb⟩
   ·by_cases k4:k=4
    ·subst k4
     refine (decode_4 F q N c hF hN w hq).mono ?_
     rintro e w' ⟨rfl,hb⟩
     exact⟨⟨⟨4,nilM,nilX,fun _=>0,decLt F N⟩,rfl,⟨nilM_at _,nilX_at _⟩,⟨Nat.zero_le _,Nat.zero_le _,Nat.zero_le _,Nat.zero_le _⟩,.inr ⟨rfl,rfl,rfl,rfl⟩,⟨FrU.nil _,.inl rfl⟩,fun hz=>EqA.refl _⟩,hb⟩
    ·refine (decode_0 k ⟨k1,k2,k3,k4⟩ q N c w).mono ?_
     rintro e w' ⟨rfl,hb⟩
     rw[decZ_0 ⟨k1,k2,k3,k4⟩,decA_0 ⟨k1,k2,k3,k4⟩]
     exact⟨⟨kinA k,rfl,kinA_at _ _,few_kin k,.inl ⟨rfl,rfl⟩,⟨FrU.nil _,.inl rfl⟩,fun hz=>EqA.refl _⟩,hb⟩
theorem has_keep {b o Q:Nat} {cs ds vs:List Value} {W:World} (h:Has b o cs W) (hQ:Own Q ds W) (hl:vs.length=ds.length) (hx:∀ j,j<cs.length→o+j<vs.length→b=Q→vs[o+j]?=cs[j]?):Has b o cs (W.setCells Q 0 vs) where
 lt:=by rw[size_setCells];exact h.lt
 cell:=by
  by_cases e:b=Q
  ·intro j v hv
   have h1:=h.cell j v hv
   have hj:=(List.getElem?_eq_some_iff.1 hv).1
   subst e
   by_cases c:o+j<vs.length
   ·have:=(Own.store (vs:=vs) hQ hl).at (o+j) v ((hx j hj c rfl).trans hv)
    exact this
   ·rw[World.cell?_setCells_out b vs 0 W ⟨b,o+j,none⟩ (fun _ _ => .inr (by show 0+vs.length≤o+j;omega))]
    exact h1
  ·exact World.rangeAt_setCells_apart h.cell _ _ _ (.inl e)
theorem zer_at (i:Nat) (h6:6≤i) (h:i<24):([.int .i64 0,.slice none 0 0,.slice none 0 0,.slice none 0 0,.int .i64 0,.slice none 0 0,.int .i64 0,.int .i64 0,.int .i64 0,.int .i64 0,.int .i64 0,.int .i64 0,.int .i64 0,.int .i64 0,.int .i64 0,.int .i64 0,.int .i64 0,.int .i64 0,.int .i64 0,.int .i64 0,.int .i64 0,.int .i64 0,.int .i64 0,.int .i64 0]:List Value)[i]?=some (.int .i64 0):=by
 match i,h6,h with
 | 6,_,_=>rfl
 | 7,_,_=>rfl
 | 8,_,_=>rfl
 | 9,_,_=>rfl
 | 10,_,_=>rfl
 | 11,_,_=>rfl
 | 12,_,_=>rfl
 | 13,_,_=>rfl
 | 14,_,_=>rfl
 | 15,_,_=>rfl
 | 16,_,_=>rfl
 | 17,_,_=>rfl
 | 18,_,_=>rfl
 | 19,_,_=>rfl
 | 20,_,_=>rfl
 | 21,_,_=>rfl
 | 22,_,_=>rfl
 | 23,_,_=>rfl
 | i+24,_,h=>exact absurd h (by omega)
theorem ast_at (A:Ast) (hg:A.g=(fun _=>0)) (hl:A.l=(fun _=>0)) (i:Nat) (h6:6≤i) (h:i<24):((cA A):List Value)[i]?=some (.int .i64 0):=by
 unfold cA
 rw[hg,hl]
 match i,h6,h with
 | 6,_,_=>rfl
 | 7,_,_=>rfl
 | 8,_,_=>rfl
 | 9,_,_=>rfl
 | 10,_,_=>rfl
 | 11,_,_=>rfl
 | 12,_,_=>rfl
 | 13,_,_=>rfl
 | 14,_,_=>rfl
 | 15,_,_=>rfl
 | 16,_,_=>rfl
 | 17,_,_=>rfl
 | 18,_,_=>rfl
 | 19,_,_=>rfl
 | 20,_,_=>rfl
 | 21,_,_=>rfl
 | 22,_,_=>rfl
 | 23,_,_=>rfl
 | i+24,_,h=>exact absurd h (by omega)
theorem put_nms {A:Ast} (hg:A.g=(fun _=>0)) (hl:A.l=(fun _=>0)) {s n R:Nat} {q:Option Addr} {f:Nat→Int} {W:World} (hs:2≤s) (h:NmS W s q n f) (hR:Own R [.int .i64 0,.slice none 0 0,.slice none 0 0,.slice none 0 0,.int .i64 0,.slice none 0 0,.int .i64 0,.int .i64 0,.int .i64 0,.int .i64 0,.int .i64 0,.int .i64 0,.int .i64 0,.int .i64 0,.int .i64 0,.int .i64 0,.int .i64 0,.int .i64 0,.int .i64 0,.int .i64 0,.int .i64 0,.int .i64 0,.int .i64 0,.int .i64 0] W):NmS (W.setCells R 0 (cA A)) s q n f:=by
 rcases h with h0 | ⟨b,o,e,hh⟩
 ·exact .inl h0
 by_cases n0:n=0
 ·exact .inl n0
 refine .inr ⟨b,o,e,has_keep hh hR rfl fun j hj h1 e2=>?_⟩
 subst e2
 rw[nums_length] at hj
 have h1:o+j<24:=h1
 have h2:2≤n*s:=Nat.le_trans hs (Nat.le_mul_of_pos_left s (by omega))
 have t1:=hR.at 1 _ rfl;have t2:=hR.at 2 _ rfl;have t3:=hR.at 3 _ rfl;have t5:=hR.at 5 _ rfl
 have no:∀ i,i<n*s→o+i≠1∧o+i≠2∧o+i≠3∧o+i≠5:=fun i hi=>by
  have a2:=hh.at i _ (nums_at .i64 f hi)
  refine⟨fun e3=>?_,fun e3=>?_,fun e3=>?_,fun e3=>?_⟩
  ·rw[e3,t1] at a2;cases a2
  ·rw[e3,t2] at a2;cases a2
  ·rw[e3,t3] at a2;cases a2
  ·rw[e3,t5] at a2;cases a2
 have a:=no j hj
 have h6:6≤o+j:=by
  by_cases hj0:j=0
  ·have b:=no 1 (by omega)
   omega
  ·have b:=no (j - 1) (by omega)
   by_cases hj1:j+1<n*s
   ·have c:=no (j+1) hj1
    omega
   ·omega
 have a2:=hh.at j _ (nums_at .i64 f hj)
 rw[hR.at _ _ (zer_at _ h6 h1)] at a2
 rw[ast_at A hg hl _ h6 h1,nums_at .i64 f hj,a2]
theorem AstAt.put {A:Ast} (hA:LoneA A) {R:Nat} {W:World} (h:AstAt A W) (hR:Own R [.int .i64 0,.slice none 0 0,.slice none 0 0,.slice none 0 0,.int .i64 0,.slice none 0 0,.int .i64 0,.int .i64 0,.int .i64 0,.int .i64 0,.int .i64 0,.int .i64 0,.int .i64 0,.int .i64 0,.int .i64 0,.int .i64 0,.int .i64 0,.int .i64 0,.int .i64 0,.int .i64 0,.int .i64 0,.int .i64 0,.int .i64 0,.int .i64 0] W):AstAt A (W.setCells R 0 (cA A)):=by
 rcases hA with ⟨hg,hl⟩ | ⟨e1,e2,e3,e4⟩
 ·exact⟨⟨put_nms hg hl (by decide) h.m.v hR,put_nms hg hl (by decide) h.m.u hR,put_nms hg hl (by decide) h.m.t hR,h.m.lv,h.m.lu,h.m.lt,h.m.mv,h.m.mu,h.m.mt⟩,put_nms hg hl (by decide) h.x.t hR,h.x.l,h.x.m⟩
 ·exact⟨⟨.inl e1,.inl e2,.inl e3,h.m.lv,h.m.lu,h.m.lt,h.m.mv,h.m.mu,h.m.mt⟩,.inl e4,h.x.l,h.x.m⟩
set_option maxHeartbeats 16000000 in
theorem ADecode_any (k:Int) (F:Nat→Int) (q:Option Addr) (N c:Nat) (hF:∀ j,j<N→inB (F j)) (hN:N≤1200) (w:World) (hq:Byt w q N F) (hg:Has 0 0 CapL w) :
  Calls Tryz.prog 44 #[.int .i64 k,.slice q N c] w fun e w'=>(∃ A,e = .returned (.tuple #[(.agg (cA A).toArray),.int .i64 (decEA k F N)])∧AstAt A w'∧FewA A∧FrA w.heap.size A∧(decEA k F N=0→EqA A (decA k F N))∧(decEA k F N≠0→EqA A (kinA 0)))∧Below w.heap.size w w':=by
 have HQ:=Lib.hid hq;have GG:=Lib.hid hg
 have CON:=Lib.hid (fun w h=>decode_any k F q N c hF hN w h)
 have CK:=Lib.hid (fun A (hf:FewA A) w h h2=>ACheck_any A hf w h h2)
 have EZ:Hid (decEA k F N=if decZ k F N=0 then chkA (decA k F N) else decZ k F N):=Lib.hid rfl
 obtain⟨y,ey⟩:∃ y,decEA k F N=y:=⟨_,rfl⟩
 rw[ey] at EZ ⊢
 clear hF hN hq hg ey
 go_enter Tryz.func44,Tryz.ntmps44
 go_upto_region 1 with fail
 obtain⟨W0,hW⟩:∃ W0,W0=(w.alloc (.cells #[.int .i64 0,.slice none 0 0,.slice none 0 0,.slice none 0 0,.int .i64 0,.slice none 0 0,.int .i64 0,.int .i64 0,.int .i64 0,.int .i64 0,.int .i64 0,.int .i64 0,.int .i64 0,.int .i64 0,.int .i64 0,.int .i64 0,.int .i64 0,.int .i64 0,.int .i64 0,.int .i64 0,.int .i64 0,.int .i64 0,.int .i64 0,.int .i64 0] 45)):=⟨_,rfl⟩
 have hB0:Below w.heap.size w W0:=hW ▸ (Below.al (Below.refl _ _))
 have HR:Hid (Own w.heap.size ([.int .i64 0,.slice none 0 0,.slice none 0 0,.slice none 0 0,.int .i64 0,.slice none 0 0,.int .i64 0,.int .i64 0,.int .i64 0,.int .i64 0,.int .i64 0,.int .i64 0,.int .i64 0,.int .i64 0,.int .i64 0,.int .i64 0,.int .i64 0,.int .i64 0,.int .i64 0,.int .i64 0,.int .i64 0,.int .i64 0,.int .i64 0,.int .i64 0]) W0):=Lib.hid (hW ▸ (show Own w.heap.size ([.int .i64 0,.slice none 0 0,.slice none 0 0,.slice none 0 0,.int .i64 0,.slice none 0 0,.int .i64 0,.int .i64 0,.int .i64 0,.int .i64 0,.int .i64 0,.int .i64 0,.int .i64 0,.int .i64 0,.int .i64 0,.int .i64 0,.int .i64 0,.int .i64 0,.int .i64 0,.int .i64 0,.int .i64 0,.int .i64 0,.int .i64 0,.int .i64 0]) (w.alloc (.cells #[.int .i64 0,.slice none 0 0,.slice none 0 0,.slice none 0 0,.int .i64 0,.slice none 0 0,.int .i64 0,.int .i64 0,.int .i64 0,.int .i64 0,.int .i64 0,.int .i64 0,.int .i64 0,.int .i64 0,.int .i64 0,.int .i64 0,.int .i64 0,.int .i64 0,.int .i64 0,.int .i64 0,.int .i64 0,.int .i64 0,.int .i64 0,.int .i64 0] 45)) from Own.newAt (by simp)))
 rw[← hW]
 clear hW
 obtain⟨R,eR⟩:∃ X,X=w.heap.size:=⟨_,rfl⟩
 rw[← eR] at HR ⊢
 have Rw:w.heap.size≤R:=by omega
 clear eR
 go_wp2_with (fail)
 go_at_call 78
 refine (CON.out _ (HQ.out.later hB0)).mono ?_
 rintro e w1 ⟨⟨A,rfl,hA,hf,hl,hU,hE⟩,hb⟩
 have LU:=Lib.hid (hU.mono hB0.size)
 clear hU
 have HR1:=Lib.hid (HR.out.later hb);have hB1:=Below.go hB0 hb
 have AA:=Lib.hid hA;have FF:=Lib.hid hf;have LL:=Lib.hid hl;have EE:=Lib.hid hE
 have G1:=Lib.hid (GG.out.later hB1)
 clear hA hf hl hE hb HQ GG HR hB0 CON
 generalize decZ k F N=z at *
 go_upto_region 2 with (refine wpList_store_mid rfl 45 _ _ rfl _ 0 (cA A).toArray rfl rfl (there_newn (cs:=[.int .i64 0,.slice none 0 0,.slice none 0 0,.slice none 0 0,.int .i64 0,.slice none 0 0,.int .i64 0,.int .i64 0,.int .i64 0,.int .i64 0,.int .i64 0,.int .i64 0,.int .i64 0,.int .i64 0,.int .i64 0,.int .i64 0,.int .i64 0,.int .i64 0,.int .i64 0,.int .i64 0,.int .i64 0,.int .i64 0,.int .i64 0,.int .i64 0]) (by first | rfl | simp)) (by kernel_rfl) (by first | exact cA_one _ | simp[Value.oneCell']) ?_;(obtain⟨W2,hW2⟩:∃ W,W=(w1.alloc (.cells #[.int .i64 0,.slice none 0 0,.slice none 0 0,.slice none 0 0,.int .i64 0,.slice none 0 0,.int .i64 0,.int .i64 0,.int .i64 0,.int .i64 0,.int .i64 0,.int .i64 0,.int .i64 0,.int .i64 0,.int .i64 0,.int .i64 0,.int .i64 0,.int .i64 0,.int .i64 0,.int .i64 0,.int .i64 0,.int .i64 0,.int .i64 0,.int .i64 0] 45)).setCells w1.heap.size 0 ((cA A)):=⟨_,rfl⟩);have hbx:Below w1.heap.size w1 W2:=hW2 ▸ Below.setCells (Below.al (Below.refl _ _)) (Nat.le_refl _) _ _;have HQ:Hid (Own w1.heap.size ((cA A)) W2):=Lib.hid (hW2 ▸ Own.store (Own.new _ [.int .i64 0,.slice none 0 0,.slice none 0 0,.slice none 0 0,.int .i64 0,.slice none 0 0,.int .i64 0,.int .i64 0,.int .i64 0,.int .i64 0,.int .i64 0,.int .i64 0,.int .i64 0,.int .i64 0,.int .i64 0,.int .i64 0,.int .i64 0,.int .i64 0,.int .i64 0,.int .i64 0,.int .i64 0,.int .i64 0,.int .i64 0,.int .i64 0] _) rfl);change wpList _ _ _ _ _ ((w1.alloc (.cells #[.int .i64 0,.slice none 0 0,.slice none 0 0,.slice none 0 0,.int .i64 0,.slice none 0 0,.int .i64 0,.int .i64 0,.int .i64 0,.int .i64 0,.int .i64 0,.int .i64 0,.int .i64 0,.int .i64 0,.int .i64 0,.int .i64 0,.int .i64 0,.int .i64 0,.int .i64 0,.int .i64 0,.int .i64 0,.int .i64 0,.int .i64 0,.int .i64 0] 45)).setCells w1.heap.size 0 ((cA A)));rw[← hW2];clear hW2)
 obtain⟨Q,eQ⟩:∃ X,X=w1.heap.size:=⟨_,rfl⟩
 rw[← eQ] at HQ ⊢
 clear eQ
 have hB2:=Below.go hB1 hbx
 have HR2:=Lib.hid (HR1.out.later hbx);have A2:=Lib.hid (AA.out.later hbx);have G2:=Lib.hid (G1.out.later hbx)
 clear HR1 hB1 hbx AA G1
 by_cases hz:z=0
 ·subst hz
  have EA_:=Lib.hid (EE.out rfl)
  rw[if_pos rfl,← chkA_congr EA_.out] at EZ
  go_wp2_with (refine wpList_load_mid rfl 45 _ rfl Q 0 rfl ((cA A)) _ HQ.out.cell Tryz.underlying45 rfl (by kernel_rfl) ?_)
  go_at_call 79
  refine (CK.out A FF.out _ A2.out G2.out).mono ?_
  rintro e w3 ⟨rfl,hb⟩
  have HR3:=Lib.hid (HR2.out.later hb);have A3:=Lib.hid (A2.out.later hb);have HQ3:=Lib.hid (HQ.out.later hb);have hBv:=Below.go hB2 hb
  clear HR2 A2 HQ hB2 hb G2 CK
  rw[← EZ.out]
  clear EZ
  by_cases hy:y=0
  ·subst hy
   go_wp2_with (first | (refine wpList_load_mid rfl 45 _ rfl Q 0 rfl ((cA A)) _ HQ3.out.cell Tryz.underlying45 rfl (by kernel_rfl) ?_) | (refine wpList_store_mid rfl 45 _ _ rfl R 0 ((cA A)).toArray rfl rfl HR3.out.free (by kernel_rfl) (by first | exact cA_one _ | simp[Value.oneCell']) ?_;change wpList _ _ _ _ _ (w3.setCells R 0 ((cA A)));have HRz:Hid (Own R ((cA A)) (w3.setCells R 0 ((cA A)))):=Lib.hid (Own.store HR3.out rfl);have hBz:Below w.heap.size w (w3.setCells R 0 ((cA A))):=Below.setCells hBv Rw _ _;have Az:=Lib.hid (AstAt.put LL.out A3.out HR3.out);generalize w3.setCells R 0 ((cA A))=wz at *))
   have hL:=run_loadVar_mid (P:=Tryz.prog) _ R 0 45 ((cA A)) _ HRz.out.cell Tryz.underlying45 rfl (by kernel_rfl)
   exact bodyPost_ret (v := .tuple #[.agg ((cA A)).toArray,.int .i64 0]) (res_two Tryz.results44 rfl hL rfl) rfl ⟨⟨A,rfl,Az.out,FF.out,LU.out,by first | exact⟨fun _=>EA_.out,fun h=>absurd rfl h⟩ | exact EA_.out⟩,hBz⟩
  ·have hd:(y != 0)=true:=by simpa using hy
   go_wp2_with (refine wpList_store_mid rfl 45 _ _ rfl R 0 ([.int .i64 0,.slice none 0 0,.slice none 0 0,.slice none 0 0,.int .i64 0,.slice none 0 0,.int .i64 0,.int .i64 0,.int .i64 0,.int .i64 0,.int .i64 0,.int .i64 0,.int .i64 0,.int .i64 0,.int .i64 0,.int .i64 0,.int .i64 0,.int .i64 0,.int .i64 0,.int .i64 0,.int .i64 0,.int .i64 0,.int .i64 0,.int .i64 0]).toArray rfl rfl HR3.out.free (by kernel_rfl) (by first | exact cA_one _ | simp[Value.oneCell']) ?_;change wpList _ _ _ _ _ (w3.setCells R 0 ([.int .i64 0,.slice none 0 0,.slice none 0 0,.slice none 0 0,.int .i64 0,.slice none 0 0,.int .i64 0,.int .i64 0,.int .i64 0,.int .i64 0,.int .i64 0,.int .i64 0,.int .i64 0,.int .i64 0,.int .i64 0,.int .i64 0,.int .i64 0,.int .i64 0,.int .i64 0,.int .i64 0,.int .i64 0,.int .i64 0,.int .i64 0,.int .i64 0]));have HRz:Hid (Own R ([.int .i64 0,.slice none 0 0,.slice none 0 0,.slice none 0 0,.int .i64 0,.slice none 0 0,.int .i64 0,.int .i64 0,.int .i64 0,.int .i64 0,.int .i64 0,.int .i64 0,.int .i64 0,.int .i64 0,.int .i64 0,.int .i64 0,.int .i64 0,.int .i64 0,.int .i64 0,.int .i64 0,.int .i64 0,.int .i64 0,.int .i64 0,.int .i64 0]) (w3.setCells R 0 ([.int .i64 0,.slice none 0 0,.slice none 0 0,.slice none 0 0,.int .i64 0,.slice none 0 0,.int .i64 0,.int .i64 0,.int .i64 0,.int .i64 0,.int .i64 0,.int .i64 0,.int .i64 0,.int .i64 0,.int .i64 0,.int .i64 0,.int .i64 0,.int .i64 0,.int .i64 0,.int .i64 0,.int .i64 0,.int .i64 0,.int .i64 0,.int .i64 0]))):=Lib.hid (Own.store HR3.out rfl);have hBz:Below w.heap.size w (w3.setCells R 0 ([.int .i64 0,.slice none 0 0,.slice none 0 0,.slice none 0 0,.int .i64 0,.slice none 0 0,.int .i64 0,.int .i64 0,.int .i64 0,.int .i64 0,.int .i64 0,.int .i64 0,.int .i64 0,.int .i64 0,.int .i64 0,.int .i64 0,.int .i64 0,.int .i64 0,.int .i64 0,.int .i64 0,.int .i64 0,.int .i64 0,.int .i64 0,.int .i64 0])):=Below.setCells hBv Rw _ _;generalize w3.setCells R 0 ([.int .i64 0,.slice none 0 0,.slice none 0 0,.slice none 0 0,.int .i64 0,.slice none 0 0,.int .i64 0,.int .i64 0,.int .i64 0,.int .i64 0,.int .i64 0,.int .i64 0,.int .i64 0,.int .i64 0,.int .i64 0,.int .i64 0,.int .i64 0,.int .i64 0,.int .i64 0,.int .i64 0,.int .i64 0,.int .i64 0,.int .i64 0,.int .i64 0])=wz at *)
   have hL:=run_loadVar_mid (P:=Tryz.prog) _ R 0 45 ([.int .i64 0,.slice none 0 0,.slice none 0 0,.slice none 0 0,.int .i64 0,.slice none 0 0,.int .i64 0,.int .i64 0,.int .i64 0,.int .i64 0,.int .i64 0,.int .i64 0,.int .i64 0,.int .i64 0,.int .i64 0,.int .i64 0,.int .i64 0,.int .i64 0,.int .i64 0,.int .i64 0,.int .i64 0,.int .i64 0,.int .i64 0,.int .i64 0]) _ HRz.out.cell Tryz.underlying45 rfl (by kernel_rfl)
   exact bodyPost_ret (v := .tuple #[.agg ([.int .i64 0,.slice none 0 0,.slice none 0 0,.slice none 0 0,.int .i64 0,.slice none 0 0,.int .i64 0,.int .i64 0,.int .i64 0,.int .i64 0,.int .i64 0,.int .i64 0,.int .i64 0,.int .i64 0,.int .i64 0,.int .i64 0,.int .i64 0,.int .i64 0,.int .i64 0,.int .i64 0,.int .i64 0,.int .i64 0,.int .i64 0,.int .i64 0]).toArray,.int .i64 y]) (res_two Tryz.results44 rfl hL rfl) rfl ⟨⟨kinA 0,rfl,kinA_at _ _,few_kin 0,⟨FrU.nil _,.inl rfl⟩,by first | exact⟨fun h=>absurd h hy,fun _=>EqA.refl _⟩ | exact EqA.refl _⟩,hBz⟩
 ·have hd:(z != 0)=true:=by simpa using hz
  have hd2:(z == 0)=false:=by simpa using hz
  have hBv:=hB2
  rw[if_neg hz] at EZ
  have ez:=EZ.out
  subst ez
  go_wp2_with (refine wpList_store_mid rfl 45 _ _ rfl R 0 ([.int .i64 0,.slice none 0 0,.slice none 0 0,.slice none 0 0,.int .i64 0,.slice none 0 0,.int .i64 0,.int .i64 0,.int .i64 0,.int .i64 0,.int .i64 0,.int .i64 0,.int .i64 0,.int .i64 0,.int .i64 0,.int .i64 0,.int .i64 0,.int .i64 0,.int .i64 0,.int .i64 0,.int .i64 0,.int .i64 0,.int .i64 0,.int .i64 0]).toArray rfl rfl HR2.out.free (by kernel_rfl) (by first | exact cA_one _ | simp[Value.oneCell']) ?_;change wpList _ _ _ _ _ (W2.setCells R 0 ([.int .i64 0,.slice none 0 0,.slice none 0 0,.slice none 0 0,.int .i64 0,.slice none 0 0,.int .i64 0,.int .i64 0,.int .i64 0,.int .i64 0,.int .i64 0,.int .i64 0,.int .i64 0,.int .i64 0,.int .i64 0,.int .i64 0,.int .i64 0,.int .i64 0,.int .i64 0,.int .i64 0,.int .i64 0,.int .i64 0,.int .i64 0,.int .i64 0]));have HRz:Hid (Own R ([.int .i64 0,.slice none 0 0,.slice none 0 0,.slice none 0 0,.int .i64 0,.slice none 0 0,.int .i64 0,.int .i64 0,.int .i64 0,.int .i64 0,.int .i64 0,.int .i64 0,.int .i64 0,.int .i64 0,.int .i64 0,.int .i64 0,.int .i64 0,.int .i64 0,.int .i64 0,.int .i64 0,.int .i64 0,.int .i64 0,.int .i64 0,.int .i64 0]) (W2.setCells R 0 ([.int .i64 0,.slice none 0 0,.slice none 0 0,.slice none 0 0,.int .i64 0,.slice none 0 0,.int .i64 0,.int .i64 0,.int .i64 0,.int .i64 0,.int .i64 0,.int .i64 0,.int .i64 0,.int .i64 0,.int .i64 0,.int .i64 0,.int .i64 0,.int .i64 0,.int .i64 0,.int .i64 0,.int .i64 0,.int .i64 0,.int .i64 0,.int .i64 0]))):=Lib.hid (Own.store HR2.out rfl);have hBz:Below w.heap.size w (W2.setCells R 0 ([.int .i64 0,.slice none 0 0,.slice none 0 0,.slice none 0 0,.int .i64 0,.slice none 0 0,.int .i64 0,.int .i64 0,.int .i64 0,.int .i64 0,.int .i64 0,.int .i64 0,.int .i64 0,.int .i64 0,.int .i64 0,.int .i64 0,.int .i64 0,.int .i64 0,.int .i64 0,.int .i64 0,.int .i64 0,.int .i64 0,.int .i64 0,.int .i64 0])):=Below.setCells hBv Rw _ _;generalize W2.setCells R 0 ([.int .i64 0,.slice none 0 0,.slice none 0 0,.slice none 0 0,.int .i64 0,.slice none 0 0,.int .i64 0,.int .i64 0,.int .i64 0,.int .i64 0,.int .i64 0,.int .i64 0,.int .i64 0,.int .i64 0,.int .i64 0,.int .i64 0,.int .i64 0,.int .i64 0,.int .i64 0,.int .i64 0,.int .i64 0,.int .i64 0,.int .i64 0,.int .i64 0])=wz at *)
  have hL:=run_loadVar_mid (P:=Tryz.prog) _ R 0 45 ([.int .i64 0,.slice none 0 0,.slice none 0 0,.slice none 0 0,.int .i64 0,.slice none 0 0,.int .i64 0,.int .i64 0,.int .i64 0,.int .i64 0,.int .i64 0,.int .i64 0,.int .i64 0,.int .i64 0,.int .i64 0,.int .i64 0,.int .i64 0,.int .i64 0,.int .i64 0,.int .i64 0,.int .i64 0,.int .i64 0,.int .i64 0,.int .i64 0]) _ HRz.out.cell Tryz.underlying45 rfl (by kernel_rfl)
  exact bodyPost_ret (v := .tuple #[.agg ([.int .i64 0,.slice none 0 0,.slice none 0 0,.slice none 0 0,.int .i64 0,.slice none 0 0,.int .i64 0,.int .i64 0,.int .i64 0,.int .i64 0,.int .i64 0,.int .i64 0,.int .i64 0,.int .i64 0,.int .i64 0,.int .i64 0,.int .i64 0,.int .i64 0,.int .i64 0,.int .i64 0,.int .i64 0,.int .i64 0,.int .i64 0,.int .i64 0]).toArray,.int .i64 y]) (res_two Tryz.results44 rfl hL rfl) rfl ⟨⟨kinA 0,rfl,kinA_at _ _,few_kin 0,⟨FrU.nil _,.inl rfl⟩,by first | exact⟨fun h=>absurd h hz,fun _=>EqA.refl _⟩ | exact EqA.refl _⟩,hBz⟩
end Go.Proofs.YtbilamnnneddmaaGreatDoor
namespace Go.Proofs.YtbilamnnneddmaaGreatDoor
set_option linter.unusedVariables false
set_option maxRecDepth 2000
set_option linter.unusedSimpArgs false
open Go.RowKit
theorem encT_0 (S:Int) (f:Nat→Int):encT S f 0=S:=rfl
theorem encT_1 (S:Int) (f:Nat→Int) (j:Nat):encT S f (1+j)=f j:=by
 unfold encT
 rw[if_neg (by omega),show 1+j - 1=j by omega]
theorem valN_w1 {F:Nat→Int} {N t:Nat} (h:t+1≤N):valN F N t 1=F t:=by
 unfold valN
 rw[if_pos h]
 exact leN_w1 _
theorem tenc_dec {S:Int} {n:Nat} {f:Nat→Int} (h:chkT S n f=0):tdecE (encT S f) (1+n*3)=0∧∀ Z,DecO (encT S f) (1+n*3) Z→S=Z.S∧n=Z.n∧∀ j,j<n*3→f j=Z.f j:=by
 have g:=tchk_good h
 obtain⟨s,rfl,hs,hn⟩:=g.cnt
 have e1:sdN (encT s f) (1+n*3)=s:=by
  unfold sdN
  rw[valN_w1 (by omega),encT_0]
  rfl
 have en:needT (encT s f) (1+n*3)=1+n*3:=by unfold needT;rw[e1,← hn]
 have ez:tdecE (encT s f) (1+n*3)=0:=by
  rw[dec_c en.symm,e1,← hn]
  refine Eq.trans (tchk_congr fun j hj=>?_) h
  exact encT_1 _ _ _
 refine⟨ez,fun Z hZ=>?_⟩
 have ed:dcS (encT s f) (1+n*3)=s:=by unfold dcS;rw[if_pos ez,e1]
 refine⟨by rw[hZ.S,ed],by rw[hZ.n,ed,← hn],fun j hj=>?_⟩
 rw[hZ.f j (by rw[hZ.n,ed,← hn];exact hj),encT_1]
theorem tenc_in {S:Int} {n:Nat} {f:Nat→Int} (h:chkT S n f=0):∀ j,j<1+n*3→inB (encT S f j):=by
 have g:=tchk_good h
 intro j hj
 unfold encT inB
 split
 ·rcases g.s with e | e | e | e | e<;>omega
 ·have:=g.v (j - 1) (by omega)
  omega
attribute [local go_sem ↓ high] sliced_head
end Go.Proofs.YtbilamnnneddmaaGreatDoor
namespace Go.Proofs.YtbilamnnneddmaaGreatDoor
set_option linter.unusedVariables false
set_option maxRecDepth 2000
set_option linter.unusedSimpArgs false
open Go.RowKit
theorem one_dg {F:Nat→Int} {z:Int} (h:F 0=dg z 0):∀ i,i<1→F (0+i)=dg z i:=fun i hi=>by
 have e:i=0:=by omega
 subst e
 exact h
theorem encG_d0 (g:Nat→Int):encG g 0=dg (g 0) 0:=by
 unfold encG
 rw[outF_head _ _ _ _ (by decide)]
 unfold encG2
 rw[outF_head _ _ _ _ (by decide)]
 unfold encG1
 exact outF_dg (fun _=>0) 0 1 g 0 0 (by decide)
theorem encL_d0 (l:Nat→Int):encLg l 0=dg (l 0) 0:=by
 unfold encLg
 rw[outF_head _ _ _ _ (by decide)]
 unfold encT2
 rw[outF_head _ _ _ _ (by decide)]
 unfold encG1
 exact outF_dg (fun _=>0) 0 1 l 0 0 (by decide)
theorem encL_c (l:Nat→Int) (r:Nat) (hr:r<3) (i:Nat) (hi:i<4):encLg l (1+4*r+i)=dg (l (1+r)) i:=by
 unfold encLg
 rw[outF_head _ _ _ _ (by omega)]
 unfold encT2
 rw[outF_dg _ _ _ _ r i hi]
theorem encL_p (l:Nat→Int) (r i:Nat) (hi:i<2):encLg l (13+2*r+i)=dg (l (4+r)) i:=by
 unfold encLg
 rw[outF_dg _ _ _ _ r i hi]
theorem end_self (T:Nat):endE T T (erN T T)=0:=by
 rw[dec_end,if_neg (Nat.lt_irrefl _),if_neg (Nat.lt_irrefl _)]
theorem decG_enc {g:Nat→Int} (h:chkG g=0):∀ j,j<5→g j=decG (encG g) 9 j:=fun j hj=>by
 have ok:=okG_iff.1 (chkG_zero h)
 have p1:=pw_1;have p2:=pw_2
 match j,hj with
 | 0,_=>exact (valN_of (t:=0) (W:=1) (one_dg (encG_d0 g)) (by omega) (by omega) (by decide)).symm
 | 1,_=>exact (valN_of (t:=1) (W:=2) (fun i hi=>encG_lo g 0 (by decide) i hi) (by show 0≤g 1;omega) (by show g 1<_;omega) (by decide)).symm
 | 2,_=>exact (valN_of (t:=3) (W:=2) (fun i hi=>encG_lo g 1 (by decide) i hi) (by show 0≤g 2;omega) (by show g 2<_;omega) (by decide)).symm
 | 3,_=>exact (valN_of (t:=5) (W:=2) (fun i hi=>encG_lo g 2 (by decide) i hi) (by show 0≤g 3;omega) (by show g 3<_;omega) (by decide)).symm
 | 4,_=>exact (valN_of (t:=7) (W:=2) (fun i hi=>encG_lo g 3 (by decide) i hi) (by show 0≤g 4;omega) (by show g 4<_;omega) (by decide)).symm
theorem decL_enc {l:Nat→Int} (h:chkLg l=0):∀ j,j<13→l j=decLt (encLg l) 31 j:=fun j hj=>by
 obtain⟨⟨o0,o1,o2,o3⟩,ob,-⟩:=chkLg_zero h
 unfold lgB on3 at ob
 have p1:=pw_1;have p4:=pw_vals.2.2.2.1
 match j,hj with
 | 0,_=>exact (valN_of (t:=0) (W:=1) (one_dg (encL_d0 l)) (by omega) (by omega) (by decide)).symm
 | 1,_=>exact (valN_of (t:=1) (W:=4) (fun i hi=>encL_c l 0 (by decide) i hi) (by show 0≤l 1;omega) (by show l 1<_;omega) (by decide)).symm
 | 2,_=>exact (valN_of (t:=5) (W:=4) (fun i hi=>encL_c l 1 (by decide) i hi) (by show 0≤l 2;omega) (by show l 2<_;omega) (by decide)).symm
 | 3,_=>exact (valN_of (t:=9) (W:=4) (fun i hi=>encL_c l 2 (by decide) i hi) (by show 0≤l 3;omega) (by show l 3<_;omega) (by decide)).symm
 | 4,_=>exact (sgnN_of (t:=13) (fun i hi=>encL_p l 0 i hi) (by show -4096≤l 4∧l 4≤4096;omega) (by decide)).symm
 | 5,_=>exact (sgnN_of (t:=15) (fun i hi=>encL_p l 1 i hi) (by show -4096≤l 5∧l 5≤4096;omega) (by decide)).symm
 | 6,_=>exact (sgnN_of (t:=17) (fun i hi=>encL_p l 2 i hi) (by show -4096≤l 6∧l 6≤4096;omega) (by decide)).symm
 | 7,_=>exact (sgnN_of (t:=19) (fun i hi=>encL_p l 3 i hi) (by show -4096≤l 7∧l 7≤4096;omega) (by decide)).symm
 | 8,_=>exact (sgnN_of (t:=21) (fun i hi=>encL_p l 4 i hi) (by show -4096≤l 8∧l 8≤4096;omega) (by decide)).symm
 | 9,_=>exact (sgnN_of (t:=23) (fun i hi=>encL_p l 5 i hi) (by show -4096≤l 9∧l 9≤4096;omega) (by decide)).symm
 | 10,_=>exact (sgnN_of (t:=25) (fun i hi=>encL_p l 6 i hi) (by show -4096≤l 10∧l 10≤4096;omega) (by decide)).symm
 | 11,_=>exact (sgnN_of (t:=27) (fun i hi=>encL_p l 7 i hi) (by show -4096≤l 11∧l 11≤4096;omega) (by decide)).symm
 | 12,_=>exact (sgnN_of (t:=29) (fun i hi=>encL_p l 8 i hi) (by show -4096≤l 12∧l 12≤4096;omega) (by decide)).symm
theorem kind_of {A:Ast} (h:chkA A=0):A.k=1∨A.k=2∨A.k=3∨A.k=4:=by
 by_cases k1:A.k=1
 ·exact .inl k1
 by_cases k2:A.k=2
 ·exact .inr (.inl k2)
 by_cases k3:A.k=3
 ·exact .inr (.inr (.inl k3))
 by_cases k4:A.k=4
 ·exact .inr (.inr (.inr k4))
 unfold chkA at h
 rw[if_neg k1,if_neg k2,if_neg k3,if_neg k4] at h
 cases h
theorem enc_decA {A:Ast} (h:chkA A=0):decZ A.k (encA A) (lenA A)=0∧EqA A (decA A.k (encA A) (lenA A)):=by
 obtain⟨k,M,X,g,l⟩:=A
 rcases kind_of h with rfl | rfl | rfl | rfl
 ·obtain⟨hz,hs⟩:=chk2_zero (show chk2 (chkM M) (sameA ⟨1,nilM,X,g,l⟩ (kinA 1))=0 from h)
  have hs:=sameA_iff.1 hs
  have go:=chk_good (show chkF M.nv M.nu M.nt M.V M.U M.R=0 from hz)
  obtain⟨⟨a,b⟩,c,d,e⟩:=enc_dec go
  exact⟨enc_good hz,⟨rfl,⟨a.symm,fun j hj=>(c j hj).symm⟩,⟨go.hu.trans a.symm,fun j hj=>(d j hj).symm⟩,⟨b.symm,fun j hj=>(e j hj).symm⟩,hs.s,⟨hs.x.1,hs.x.2⟩,hs.g,hs.l⟩⟩
 ·obtain⟨hz,hs⟩:=chk2_zero (show chk2 (chkT X.S X.n X.f) (sameA ⟨2,M,nilX,g,l⟩ (kinA 2))=0 from h)
  have hs:=sameA_iff.1 hs
  obtain⟨a,b⟩:=tenc_dec hz
  obtain⟨e1,e2,e3⟩:=b ⟨(dcS (encT X.S X.f) (1+X.n*3):Int),none,dcS (encT X.S X.f) (1+X.n*3)*dcS (encT X.S X.f) (1+X.n*3),0,fun j=>encT X.S X.f (1+j)⟩ ⟨rfl,rfl,fun _ _=>rfl⟩
  exact⟨a,⟨rfl,hs.v,hs.u,hs.t,e1,⟨e2,e3⟩,hs.g,hs.l⟩⟩
 ·obtain⟨hz,hs⟩:=chk2_zero (show chk2 (chkG g) (sameA ⟨3,M,X,fun _=>0,l⟩ (kinA 3))=0 from h)
  have hs:=sameA_iff.1 hs
  exact⟨end_self 9,⟨rfl,hs.v,hs.u,hs.t,hs.s,hs.x,decG_enc hz,hs.l⟩⟩
 ·obtain⟨hz,hs⟩:=chk2_zero (show chk2 (chkLg l) (sameA ⟨4,M,X,g,fun _=>0⟩ (kinA 4))=0 from h)
  have hs:=sameA_iff.1 hs
  exact⟨end_self 31,⟨rfl,hs.v,hs.u,hs.t,hs.s,hs.x,hs.g,decL_enc hz⟩⟩
theorem enc_decE {A:Ast} (h:chkA A=0):decEA A.k (encA A) (lenA A)=0:=by
 obtain⟨h1,h2⟩:=enc_decA h
 unfold decEA
 rw[if_pos h1,← chkA_congr h2]
 exact h
theorem lenA_le {A:Ast} (h:chkA A=0):0<lenA A∧lenA A≤900∧(lenA A:Int)≤capF A.k:=by
 obtain⟨k,M,X,g,l⟩:=A
 rcases kind_of h with rfl | rfl | rfl | rfl
 ·obtain⟨hz,hs⟩:=chk2_zero (show chk2 (chkM M) (sameA ⟨1,nilM,X,g,l⟩ (kinA 1))=0 from h)
  have go:=chk_good (show chkF M.nv M.nu M.nt M.V M.U M.R=0 from hz)
  have h1:=go.hn;have h2:=go.ht;have h3:=go.hu
  show 0<encN M.nv M.nu M.nt∧encN M.nv M.nu M.nt≤900∧(encN M.nv M.nu M.nt:Int)≤2048
  unfold encN
  omega
 ·obtain⟨hz,hs⟩:=chk2_zero (show chk2 (chkT X.S X.n X.f) (sameA ⟨2,M,nilX,g,l⟩ (kinA 2))=0 from h)
  obtain⟨s,e1,e2,e3⟩:=(tchk_good hz).cnt
  show 0<1+X.n*3∧1+X.n*3≤900∧((1+X.n*3:Nat):Int)≤1024
  rw[e3]
  rcases e2 with rfl | rfl | rfl | rfl | rfl<;>decide
 ·show 0<9∧9≤900∧((9:Nat):Int)≤64
  decide
 ·show 0<31∧31≤900∧((31:Nat):Int)≤64
  decide
end Go.Proofs.YtbilamnnneddmaaGreatDoor
namespace Go.Proofs.YtbilamnnneddmaaGreatDoor
set_option linter.unusedVariables false
set_option maxRecDepth 2000
set_option linter.unusedSimpArgs false
open Go.RowKit
theorem inB_dg (z:Int) (i:Nat):inB (dg z i):=by
 unfold dg inB
 omega
theorem inB_out {f:Nat→Int} {m W:Nat} {g:Nat→Int} (h:∀ j,inB (f j)) (j:Nat):inB (outF f m W g j):=by
 unfold outF
 split
 ·exact h j
 ·exact inB_dg _ _
theorem inB_zero:inB 0:=by unfold inB;omega
theorem encA_in {A:Ast} (h:chkA A=0):∀ j,j<lenA A→inB (encA A j):=by
 obtain⟨k,M,X,g,l⟩:=A
 intro j hj
 rcases kind_of h with rfl | rfl | rfl | rfl
 ·exact enc_in j
 ·exact tenc_in (chk2_zero (show chk2 (chkT X.S X.n X.f) (sameA ⟨2,M,nilX,g,l⟩ (kinA 2))=0 from h)).1 j hj
 ·show inB (encG g j)
  unfold encG encG2 encG1
  exact inB_out (inB_out (inB_out (fun _=>inB_zero))) j
 ·show inB (encLg l j)
  unfold encLg encT2 encG1
  exact inB_out (inB_out (inB_out (fun _=>inB_zero))) j
end Go.Proofs.YtbilamnnneddmaaGreatDoor
