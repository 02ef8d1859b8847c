import Derived.Test.YtbilamnnneddmaaGreatDoorZEAx
import Derived.Test.YtbilamnnneddmaaGreatDoorZGBx
import Derived.Lib.Hide
import Derived.Test.YtbilamnnneddmaaGreatDoorZHUx
import Derived.Test.YtbilamnnneddmaaGreatDoorZPCx
import Derived.Test.YtbilamnnneddmaaGreatDoorZPEx
import Derived.Test.YtbilamnnneddmaaGreatDoorZGU
import Derived.WalkKit
import Derived.ProofKit
import Derived.OpenShut
import Derived.ChangeSame
namespace Go.Proofs.YtbilamnnneddmaaGreatDoor
set_option linter.unusedVariables false
set_option maxRecDepth 2000
set_option linter.unusedSimpArgs false
open Go.RowKit
structure Mn where
 i:Int
 k:Int
 l:Int
 g:Nat→Int
 f:Int
 t:Int
 s:Int
 c:Int
def cM (M:Mn):List Value:=[.int .u64 M.i,.int .i64 M.k,.int .u32 M.l,.int .u8 (M.g 0),.int .u8 (M.g 1),.int .u8 (M.g 2),.int .u8 (M.g 3),.int .u8 (M.g 4),.int .u8 (M.g 5),.int .u8 (M.g 6),.int .u8 (M.g 7),.int .u32 M.f,.int .u32 M.t,.int .i64 M.s,.int .i64 M.c]
def okM (M:Mn):Prop:=InM M.i M.k M.l M.g M.f M.t M.s M.c
def nilMn:Mn:=⟨0,0,0,fun _=>0,0,0,0,0⟩
def chkN (M:Mn):Int:=checkF M.k M.g M.f M.t M.s M.c
def encM (M:Mn):Nat→Int:=gencF M.i M.k M.l M.g M.f M.t M.s M.c
def Mn.of (M:Mn) (L:Nat):Mn:=⟨M.i,M.k,M.l,M.g,M.f,M.t,L,chunkF L⟩
def decM (F:Nat→Int):Mn:=⟨gvalN F 35 0 8,gvalN F 35 8 1,gvalN F 35 9 4,mskN F 35,gvalN F 35 21 4,gvalN F 35 25 4,gvalN F 35 29 4,gvalN F 35 33 2⟩
theorem cM_one (M:Mn):(cM M).toArray.all (·.oneCell')=true:=by simp[cM,Value.oneCell']
def nonF (b:Nat→Int) (z:Int):Nat→Int:=outF b 8 4 (fun _=>z%4294967296)
def markF (j:Nat):Int:=if j=0 then 85 else if j=1 then 77 else if j=2 then 66 else 49
def headF (b mF:Nat→Int) (j:Nat):Int:=if j<4 then markF j else if j<12 then b (j - 4) else mF (j - 12)
def tagB (kf b mF:Nat→Int):Nat→Int:=macF kf (nonF b 0) (headF b mF) 47 (nencF kf (nonF b 0) fun _=>0) 0
def topF (kf b mF:Nat→Int) (j:Nat):Int:=if j<47 then headF b mF j else tagB kf b mF (j - 47)
def froF (i n:Nat):Nat→Int:=outF (fun _=>0) 0 2 (fun k=>if k=0 then i else n)
def addF (T:Nat→Int) (i n:Nat) (j:Nat):Int:=if j<4 then froF i n j else T (j - 4)
def chL (L i:Nat):Nat:=min (L - 256*i) 256
def chN (L:Nat):Nat:=(L+255)/256
def chuF (kf b T P:Nat→Int) (L i j:Nat):Int:=if j<4 then froF i (chL L i) j else sealF kf (nonF b (i+1)) (addF T i (chL L i)) 20 (fun r=>P (256*i+r)) (chL L i) (j - 4)
def bunF (kf b mF P:Nat→Int) (L j:Nat):Int:=if j<63 then topF kf b mF j else chuF kf b (tagB kf b mF) P L ((j - 63)/276) ((j - 63)%276)
def bunA (L i:Nat):Nat:=63+min (256*i) L+20*min i (chN L)
def bunL (L:Nat):Nat:=bunA L (chN L)
theorem chunk_N (L:Nat):chunkF L=chN L:=by
 unfold chN
 by_cases h:L=0
 ·subst h;rfl
 ·rw[chunkF_yes (by omega)];omega
theorem bunA_lt {L i:Nat} (h:i<chN L):bunA L i=63+276*i:=by
 have:256*i<L:=by unfold chN at h;omega
 unfold bunA
 omega
theorem bunA_succ {L i:Nat} (h:i<chN L):bunA L (i+1)=63+276*i+(chL L i+20):=by
 have:256*i<L:=by unfold chN at h;omega
 unfold bunA chL
 omega
theorem in_nonF {b:Nat→Int} (hb:∀ j,j<8→inB (b j)) (z:Int) (j:Nat):inB (nonF b z j):=by
 unfold nonF outF
 split
 ·exact hb j (by assumption)
 ·exact in_dg _ _
theorem in_markF (j:Nat):inB (markF j):=by
 unfold markF
 repeat' split
 all_goals (unfold inB;omega)
theorem in_froF (i n j:Nat):inB (froF i n j):=by
 unfold froF outF
 rw[if_neg (by omega)]
 exact in_dg _ _
theorem in_headF {b mF:Nat→Int} (hb:∀ j,j<8→inB (b j)) (hm:∀ j,j<35→inB (mF j)) (j:Nat) (hj:j<47):inB (headF b mF j):=by
 unfold headF
 split
 ·exact in_markF j
 ·split
  ·exact hb _ (by omega)
  ·exact hm _ (by omega)
theorem in_tagB (kf b mF:Nat→Int) (j:Nat):inB (tagB kf b mF j):=in_macF _ _ _ _ _ _ _
theorem in_addF {T:Nat→Int} {i n:Nat} (hT:∀ j,j<16→inB (T j)) (j:Nat) (hj:j<20):inB (addF T i n j):=by
 unfold addF
 split
 ·exact in_froF _ _ _
 ·exact hT _ (by omega)
theorem bun_top (kf b mF P:Nat→Int) (L:Nat) {j:Nat} (h:j<63):bunF kf b mF P L j=topF kf b mF j:=by unfold bunF;rw[if_pos h]
theorem bun_chu (kf b mF P:Nat→Int) (L i:Nat) {r:Nat} (h:r<276):bunF kf b mF P L (63+276*i+r)=chuF kf b (tagB kf b mF) P L i r:=by
 unfold bunF
 rw[if_neg (by omega),show (63+276*i+r - 63)/276=i by omega,show (63+276*i+r - 63)%276=r by omega]
end Go.Proofs.YtbilamnnneddmaaGreatDoor
namespace Go.Proofs.YtbilamnnneddmaaGreatDoor
set_option linter.unusedVariables false
set_option maxRecDepth 2000
set_option linter.unusedSimpArgs false
open Go.RowKit
theorem over_mid (g h:Nat→Int) (a t n:Nat) (ht:a+t≤n):over (nums .u8 h n) a (nums .u8 g t)=nums .u8 (fun j=>if j<a then h j else if j<a+t then g (j - a) else h j) n:=by
 apply List.ext_getElem?
 intro j
 unfold over
 by_cases h1:j<a
 ·rw[List.append_assoc,List.getElem?_append_left (by rw[List.length_take,nums_length];omega),List.getElem?_take,if_pos h1,nums_at _ _ (by omega),nums_at _ _ (by omega),if_pos h1]
 ·rw[List.append_assoc,List.getElem?_append_right (by rw[List.length_take,nums_length];omega),List.length_take,nums_length .u8 h n,nums_length .u8 g t,show min a n=a by omega]
  by_cases h2:j<a+t
  ·rw[List.getElem?_append_left (by rw[nums_length];omega),nums_at _ _ (by omega),nums_at _ _ (by omega),if_neg h1,if_pos h2]
  ·rw[List.getElem?_append_right (by rw[nums_length];omega),nums_length,List.getElem?_drop,show a+t+(j - a - t)=j by omega]
   by_cases h3:j<n
   ·rw[nums_at _ _ h3,nums_at _ _ h3,if_neg h1,if_neg h2]
   ·rw[List.getElem?_eq_none (by rw[nums_length];omega),List.getElem?_eq_none (by rw[nums_length];omega)]
def firE (e:Nat→Int):Nat→Int
 | 0=>0
 | n+1=>if firE e n=0 then e n else firE e n
theorem firE_succ {e:Nat→Int} {k:Nat} (h:firE e k=0):firE e (k+1)=e k:=by show (if firE e k=0 then e k else firE e k)=e k;rw[if_pos h]
theorem firE_stop {e:Nat→Int} {k:Nat} (h:firE e k=0) (hk:e k≠0):∀ n,k<n→firE e n=e k:=fun n hn=>by
 induction n with
 | zero=>omega
 | succ n ih =>
  by_cases h1:k=n
  ·subst h1;exact firE_succ h
  ·have:=ih (by omega)
   show (if firE e n=0 then e n else firE e n)=e k
   rw[if_neg (by rw[this];exact hk),this]
theorem firE_zero {e:Nat→Int}:∀ {n:Nat},firE e n=0↔∀ i,i<n→e i=0
 | 0=>⟨fun _ i hi=>absurd hi (Nat.not_lt_zero i),fun _=>rfl⟩
 | n+1=>by
  constructor
  ·intro h i hi
   by_cases h0:firE e n=0
   ·rw[firE_succ h0] at h
    by_cases h1:i=n
    ·subst h1;exact h
    ·exact (firE_zero.1 h0) i (by omega)
   ·exact absurd ((if_neg h0).symm.trans h) h0
  ·intro h
   have h0:=(firE_zero (e:=e) (n:=n)).2 fun i hi=>h i (by omega)
   rw[firE_succ h0]
   exact h n (by omega)
def basF (F:Nat→Int) (j:Nat):Int:=F (4+j)
def ttF (F:Nat→Int) (j:Nat):Int:=F (47+j)
def chkC (F:Nat→Int) (i j:Nat):Int:=F (63+276*i+(4+j))
def tagC (kf F:Nat→Int) (L i:Nat):Bool:=eqB (fun j=>chkC F i (chL L i+j)) (macF kf (nonF (basF F) (i+1)) (addF (ttF F) i (chL L i)) 20 (chkC F i) (chL L i)) 16
def chE (kf F:Nat→Int) (N L i:Nat):Int :=
 if N<63+276*i+4 then 4 else if gqB (fun j=>F (63+276*i+j)) (froF i (chL L i)) 4=false then 7 else if N<63+276*i+4+(chL L i+16) then 4 else if tagC kf F L i=false then 6 else 0
def plaF (kf F:Nat→Int) (j:Nat):Int:=nencF kf (nonF (basF F) ((j/256:Nat)+1)) (chkC F (j/256)) (j%256)
def opcE (kf F:Nat→Int) (N L:Nat):Int:=if firE (chE kf F N L) (chN L)≠0 then firE (chE kf F N L) (chN L) else if bunL L<N then 7 else 0
def plnF (kf F:Nat→Int) (k j:Nat):Int:=if j<256*k then plaF kf F j else 0
theorem pln_succ (kf F:Nat→Int) (L k:Nat) (hk:k<chN L) (z:Nat→Int) (hz:∀ j,j<chL L k→z j=nencF kf (nonF (basF F) (k+1)) (chkC F k) j):over (nums .u8 (plnF kf F k) L) (256*k) (nums .u8 z (chL L k))=nums .u8 (plnF kf F (k+1)) L:=by
 have hl:256*k<L:=by unfold chN at hk;omega
 rw[over_mid _ _ _ _ _ (by unfold chL;omega)]
 refine nums_congr .u8 fun j hj=>?_
 unfold plnF
 by_cases h1:j<256*k
 ·rw[if_pos h1,if_pos h1,if_pos (by omega)]
 ·rw[if_neg h1]
  by_cases h2:j<256*k+chL L k
  ·have hc:chL L k≤256:=by unfold chL;omega
   rw[if_pos h2,if_pos (by omega),hz _ (by omega)]
   unfold plaF
   rw[show j/256=k by omega,show j%256=j - 256*k by omega]
  ·rw[if_neg h2,if_neg h1,if_neg (by unfold chL at h2;omega)]
theorem pln_end (kf F:Nat→Int) (L:Nat):nums .u8 (plnF kf F (chN L)) L=nums .u8 (plaF kf F) L:=nums_congr .u8 fun j hj=>by
 unfold plnF
 rw[if_pos (by unfold chN;omega)]
end Go.Proofs.YtbilamnnneddmaaGreatDoor
namespace Go.Proofs.YtbilamnnneddmaaGreatDoor
set_option linter.unusedVariables false
set_option maxRecDepth 2000
set_option linter.unusedSimpArgs false
open Go.ChangeShapes Go.WideShapes Go.ChangeAt Go.RowKit Go.Joins Go.Deep
def cS (kf b:Nat→Int) (M:Mn):List Value:=nums .u8 kf 32 ++ (nums .u8 b 8 ++ cM M)
theorem split55 (l:List Value) (h:l.length=55):l=(l.drop 0).take 32 ++ ((l.drop 32).take 8 ++ (l.drop 40).take 15):=by
 apply List.ext_getElem?
 intro j
 simp only[List.getElem?_append,List.getElem?_take,List.getElem?_drop,List.length_take,List.length_drop,h]
 repeat' split
 all_goals first | rfl | (congr 1;omega) | (exfalso;omega) | (rw[List.getElem?_eq_none (by omega)])
theorem open_sealed {H:Type} {enc:TypeId×Value→H} {w:World} {base:Nat} {spare:Nat→Bool} {held:Bool} {r:Reach} {b0:Nat} {v:Value} {d:DataW H} {p:List MemPlace}
  (hv:Value.okWide Tryz.prog w r b0 29 v) (h:DataW.Trod enc Tryz.prog w base spare held 29 v d p) :
  ∃ kf bf M,v = .agg (cS kf bf M).toArray∧(∀ i,i<32→inB (kf i))∧(∀ i,i<8→inB (bf i))∧okM M:=by
 obtain⟨cs,rfl,hsz⟩:=okWide_struct Tryz.underlying29 hv
 obtain⟨fuel,hf⟩:=h
 simp only[Value.cells] at hf
 obtain⟨xs,m,_,_,hl,hlen,hfs⟩:=DataW.trod_struct Tryz.underlying29 hf
 have cS_:Tryz.prog.cellsOf 29=55:=by kernel_rfl
 have cK:Tryz.prog.cellsOf 22=32:=by kernel_rfl
 have cN:Tryz.prog.cellsOf 23=8:=by kernel_rfl
 have cMm:Tryz.prog.cellsOf 27=15:=by kernel_rfl
 have c1:Tryz.prog.cellsOf 5=1:=by kernel_rfl
 rw[cS_] at hl
 match xs,hlen with
 | [y0,y1,y2],_ =>
  have h0:=by simpa using hfs 0 _ rfl
  have h1:=by simpa using hfs 1 _ rfl
  have h2:=by simpa using hfs 2 _ rfl
  simp only[cK] at h0
  simp only[cN] at h1
  simp only[cMm] at h2
  obtain⟨zk,lk,ek,wk⟩:=trod_arr Tryz.underlying22 Tryz.underlying5 c1 cK h0
  obtain⟨zn,ln,en,wn_⟩:=trod_arr Tryz.underlying23 Tryz.underlying5 c1 cN h1
  obtain⟨mi,mk,ml,mg,mf,mt,ms,mc,em,ha⟩:=cs_man h2
  refine⟨fun i=>zk.getD i 0,fun i=>zn.getD i 0,⟨mi,mk,ml,mg,mf,mt,ms,mc⟩,?_,fun i hi=>?_,fun i hi=>?_,ha⟩
  ·have e:=split55 cs.toList hl
   rw[List.drop_zero,ek,en,em,map_nums,map_nums,lk,ln] at e
   rw[show cs=cs.toList.toArray from by simp,e]
   rfl
  ·have hk:i<zk.length:=by omega
   have:=u8_wf (wk (zk.getD i 0) (by simp[hk]))
   unfold inB
   simpa using this
  ·have hk:i<zn.length:=by omega
   have:=u8_wf (wn_ (zn.getD i 0) (by simp[hk]))
   unfold inB
   simpa using this
end Go.Proofs.YtbilamnnneddmaaGreatDoor
namespace Go.Proofs.YtbilamnnneddmaaGreatDoor
set_option linter.unusedVariables false
set_option maxRecDepth 2000
set_option linter.unusedSimpArgs false
open Go.RowKit
theorem cS_has {D:Nat} {kf b:Nat→Int} {M:Mn} {W:World} (h:Has D 0 (cS kf b M) W):Has D 0 (nums .u8 kf 32) W∧Has D 32 (nums .u8 b 8) W∧Has D 40 (cM M) W:=by
 refine⟨⟨h.lt,fun j v hj=>h.cell j v ?_⟩,⟨h.lt,fun j v hj=>?_⟩,⟨h.lt,fun j v hj=>?_⟩⟩
 ·have:j<32:=by have:=(List.getElem?_eq_some_iff.1 hj).1;rwa [nums_length] at this
  rw[cS,List.getElem?_append_left (by rw[nums_length];exact this)]
  exact hj
 ·have:j<8:=by have:=(List.getElem?_eq_some_iff.1 hj).1;rwa [nums_length] at this
  have:=h.cell (32+j) v (by rw[cS,List.getElem?_append_right (by rw[nums_length];omega),nums_length,List.getElem?_append_left (by rw[nums_length];omega),show 32+j - 32=j by omega];exact hj)
  rwa [Nat.zero_add] at this
 ·have:=h.cell (40+j) v (by rw[cS,List.getElem?_append_right (by rw[nums_length];omega),nums_length,List.getElem?_append_right (by rw[nums_length];omega),nums_length,show 40+j - 32 - 8=j by omega];exact hj)
  rwa [Nat.zero_add] at this
end Go.Proofs.YtbilamnnneddmaaGreatDoor
