import Derived.Test.YtbilamnnneddmaaGreatDoorYNI
import Derived.Lib.Hide
import Derived.Deep.Onto
import Derived.Deep.Upon
import Derived.Great.BuildSlice
import Derived.ArgAppend
import Derived.LoopN
import Derived.LoopTactic
namespace Go.Proofs.YtbilamnnneddmaaGreatDoor
set_option linter.unusedVariables false
set_option maxRecDepth 2000
set_option linter.unusedSimpArgs false
open Go.RowKit
def blkB (f:Nat→Int) (N k r:Nat):Int:=if 16*k+r<N∧r<16 then f (16*k+r) else if r=min 16 (N - 16*k) then 1 else 0
def rowF (f:Nat→Int) (N j:Nat):Int:=blkB f N (j/17) (j%17)
theorem rowF_at (f:Nat→Int) (N k r:Nat) (h:r<17):rowF f N (k*17+r)=blkB f N k r:=by
 unfold rowF
 rw[show (k*17+r)/17=k by omega,show (k*17+r)%17=r by omega]
theorem in_blkB {f:Nat→Int} {N:Nat} (h:∀ i,i<N→inB (f i)) (k r:Nat):inB (blkB f N k r):=by
 unfold blkB
 split
 ·exact h _ (by omega)
 ·split<;>(unfold inB;decide)
theorem infoK:(Tryz.prog.info? 187).map (fun i=>(i.zero,i.size,i.bytes))=some (some (.agg (nums .u8 (fun _=>0) 17).toArray),17,17):=by kernel_rfl
theorem infoK_parts:∃ i,Tryz.prog.info? 187=some i∧i.zero=some (.agg (nums .u8 (fun _=>0) 17).toArray)∧i.size=17∧i.bytes=17:=by
 obtain⟨i,hi,h⟩:=Option.map_eq_some_iff.1 infoK
 simp only[Prod.mk.injEq] at h
 exact⟨i,hi,h.1,h.2.1,h.2.2⟩
theorem nover_nums (g h:Nat→Int) (t n:Nat) (ht:t≤n):over (nums .u8 h n) 0 (nums .u8 g t)=nums .u8 (fun j=>if j<t then g j else h j) n:=by
 apply List.ext_getElem?
 intro j
 unfold over
 rw[List.take_zero,List.nil_append,Nat.zero_add,nums_length]
 by_cases h1:j<t
 ·rw[List.getElem?_append_left (by rw[nums_length];exact h1),nums_at _ _ h1,nums_at _ _ (by omega),if_pos h1]
 ·rw[List.getElem?_append_right (by rw[nums_length];omega),nums_length,List.getElem?_drop,show t+(j - t)=j by omega]
  by_cases h2:j<n
  ·rw[nums_at _ _ h2,nums_at _ _ h2,if_neg h1]
  ·rw[nums_out _ _ (by omega),nums_out _ _ (by omega)]
theorem blk_done (f:Nat→Int) (N k t:Nat) (hk:16*k<N) (ht:t=min 16 (N - 16*k)):nums .u8 (at1 (fun j=>if j<t then f (16*k+j) else 0) t 1) 17=nums .u8 (blkB f N k) 17:=nums_congr _ fun j hj=>by
 unfold at1 blkB
 subst ht
 dsimp only
 by_cases h1:j=min 16 (N - 16*k)
 ·rw[if_pos h1,if_neg (by omega),if_pos h1]
 ·rw[if_neg h1]
  by_cases h2:j<min 16 (N - 16*k)
  ·rw[if_pos h2,if_pos (by omega)]
  ·rw[if_neg h2,if_neg (by omega),if_neg h1]
theorem nwpList_copy {P:Program} {w w':World} {ops:Array Oper} {rest:List Oper} {o:Oper} {a:Act} {Q:Exit→Act→World→Prop} (hgd:o.guard=none) (s x:Operand) (t:TypeId)
  (ho:o.op = .call { callee := .builtin .copy,args:=#[s,x],argTypes:=#[t,t] }) {vs vx v:Value} (hs:a.eval s=vs) (hx:a.eval x=vx)
  (hr:(Builtin.copy_ #[t,t] o.type #[vs,vx]).run P w = .ok v w') (h:wpList P ops Q rest (a.put o.dst v) w'):wpList P ops Q (o :: rest) a w :=
 wpList_plain hgd fun K hK=>by
  unfold Oper.wp
  simp[execOp,ho,resolve,invoke,builtin,hs,hx,hr,Result.andThen]
  exact hK _ _ h
theorem nsize_byte:(Tryz.prog.info? 5).map (·.size)=some 1:=by kernel_rfl
theorem ncopy_byt (X o b off dL dC sL sC t ty:Nat) (g:Nat→Int) (W:World) (ht:t=Nat.min sL dL) (hs:Has b off (nums .u8 g t) W) (hd:W.there X o t) :
  (Builtin.copy_ #[47,47] ty #[.slice (some ⟨X,o,none⟩) dL dC,.slice (some ⟨b,off,none⟩) sL sC]).run Tryz.prog W = .ok (goInt t) (W.setCells X o (nums .u8 g t)):=by
 have h:=run_copy_rows (P:=Tryz.prog) (S:=1) W 47 47 ty _ X o dL dC ⟨b,off,none⟩ sL sC (nums .u8 g t) Tryz.underlying47 nsize_byte (by rw[nums_length,Nat.mul_one,ht])
  (fun j v hv=>by rw[Addr.add_mid];exact hs.cell j v hv) (by rw[nums_length];exact hd) (nums_one _ _ _)
 rw[← ht] at h
 exact h
theorem nrow_far {w:World} {base size n X:Nat} {e:TypeId} {v:Value} {xs:List Value} (h:w.ownsRow base e size v n xs) (hne:v.ownBlock≠some X) (o:Nat) (vs:List Value):(w.setCells X o vs).ownsRow base e size v n xs:=by
 refine⟨h.1,?_⟩
 rcases h.2 with hn | ⟨g,cap,cur,rfl,hb,hg,rest⟩
 ·exact .inl hn
 ·refine .inr ⟨g,cap,cur,rfl,hb,?_,rest⟩
  rw[World.heap_setCells_other w X o vs (Array.getElem?_eq_some_iff.1 hg).1 (fun e=>hne (by rw[e];rfl))]
  exact hg
theorem fill17 (f:Nat→Int):Instr.fill (fun i=>some (i*17,17)) ((Array.range (1*17)).map ((Value.agg (nums .u8 (fun _=>0) 17).toArray).cells[·%(Value.agg (nums .u8 (fun _=>0) 17).toArray).cells.size]!)) [(0,.agg (nums .u8 f 17).toArray)]=some (nums .u8 f 17).toArray:=by kernel_rfl
theorem wpList_build17 {ops:Array Oper} {rest:List Oper} {o:Oper} {a:Act} {w:World} {Q:Exit→Act→World→Prop} (hg:o.guard=none) (x:Operand) (ho:o.op = .buildSlice 189 1 #[(0,x)]) (f:Nat→Int) (hx:a.eval x = .agg (nums .u8 f 17).toArray)
  (h:wpList Tryz.prog ops Q rest (a.put o.dst (.slice (some ⟨w.heap.size,0,none⟩) 1 1)) (w.alloc (.cells (nums .u8 f 17).toArray 187))):wpList Tryz.prog ops Q (o :: rest) a w:=by
 obtain⟨i0,hi,hz0,hz1,_⟩:=infoK_parts
 refine wpList_buildSlice hg 189 187 1 _ ho _ i0 _ Tryz.underlying189 hi hz0 (by rw[hz1];decide) (by rw[hz1];decide) ?_ h
 rw[hz1]
 simp only[List.map_toArray,List.map_cons,List.map_nil,hx]
 exact fill17 f
theorem nrow_new {w:World} {base size n X:Nat} {e:TypeId} {v:Value} {xs:List Value} (h:w.ownsRow base e size v n xs) (hX:w.heap.size≤X):v.ownBlock≠some X:=fun he=>by
 have:=(h.lt X he).2
 omega
attribute [local go_sem] nums_length
set_option maxHeartbeats 2000000 in
theorem Blocks_any (f:Nat→Int) (p:Option Addr) (n c N m:Nat) (e1:(if 65536<(n:Int) then 65536 else (n:Int))=(N:Int)) (hn:n≤c) (hc:c≤9223372036854775807) (hm:m=(N+15)/16) (w:World) (hb:Byt w p N f) :
  Calls Tryz.prog 157 #[.slice p n c] w fun e w'=>∃ v,e = .returned v∧w'.ownsRow w.heap.size 187 17 v m (nums .u8 (rowF f N) (m*17))∧Below w.heap.size w w':=by
 have hNn:N≤n:=by split at e1<;>omega
 have hN6:N≤65536:=by split at e1<;>omega
 have HNC:=Lib.hid (show N≤c by omega);have HC:=Lib.hid hc;have HB0:=Lib.hid hb;have HM:=Lib.hid hm;have HN6:=Lib.hid hN6
 have PB:Hid (∀ b off,N≠0→p=some ⟨b,off,none⟩→b<w.heap.size):=Lib.hid fun b off h0 he=>by
  obtain⟨b',off',e2,h2⟩:=hb.resolve_left h0
  rw[he] at e2
  cases e2
  exact h2.lt
 obtain⟨i0,hi,hz0,hz1,hz2⟩:=infoK_parts
 have n0:(0:Int)≤(N:Int):=by omega
 have n1:(N:Int)≤(c:Int):=by omega
 have w1:IntKind.i64.wrap ((N:Int)+15)=(N:Int)+15:=IntWalk.i64_in _ (by omega)
 have w2:((N:Int)+15).tdiv 16=(m:Int):=by rw[Int.tdiv_eq_ediv_of_nonneg (by omega)];omega
 have w3:IntKind.i64.wrap (m:Int)=(m:Int):=IntWalk.i64_in _ (by omega)
 have m0:(0:Int)≤(m:Int):=by omega
 obtain⟨W1,hmk,hrow,hgr⟩:=run_make_own (P:=Tryz.prog) w w.heap.size 189 187 i0 (.agg (nums .u8 (fun _=>0) 17).toArray) 17 Tryz.underlying189 hi hz0 hz1 .i64 .i64 m (by rw[hz2];omega) (by unfold maxLen;omega) (Nat.le_refl _)
 clear hn hc hb hm hNn hN6
 go_enter Tryz.func157,Tryz.ntmps157
 go_wp2_with (fail)
 have hB1:Below w.heap.size w W1:=(Below.refl _ _).grown hgr (Nat.le_refl _) (fun k hk=>nomatch hk)
 have BY:=Lib.hid (HB0.out.later hB1)
 have ROW:=Lib.hid hrow
 clear hmk hgr hrow HB0
 go_loopw [3,4] (fun v av wr=>∃ (k a:Nat) (p3:Option Addr) (c3:Nat),k≤m∧a=16*k∧v = .slice p3 k c3∧av = .int .i64 a∧Hid (wr.ownsRow w.heap.size 187 17 (.slice p3 k c3) k (nums .u8 (rowF f N) (k*17)))∧Hid (Byt wr p N f)∧Hid (Below w.heap.size w wr)) (fun _ av _=>(16*m - (intOf av).toNat))
 case atStart=>exact⟨0,0,_,_,Nat.zero_le _,rfl,rfl,rfl,Lib.hid (by rw[Nat.zero_mul];exact ROW.out),BY,Lib.hid hB1⟩
 case round =>
  clear ROW BY hB1
  obtain⟨k,a,p3,c3,hk,ea,rfl,rfl,ROW,BY,HB⟩:=hrel
  by_cases hlt:k<m
  ·have haN:a<N:=by have:=HM.out;omega
   obtain⟨b,off,rfl,hbs⟩:∃ b off,p=some ⟨b,off,none⟩∧Has b off (nums .u8 f N) wr:=BY.out.resolve_left (by omega)
   have HS:=Lib.hid hbs
   have bw:=PB.out b off (by omega) rfl
   obtain⟨d_,ed⟩:∃ d:Nat,d=N - a:=⟨_,rfl⟩
   obtain⟨t,et⟩:∃ t:Nat,t=min 16 d_:=⟨_,rfl⟩
   have ht:t=min 16 (N - 16*k):=by omega
   have BD:=blk_done f N k t (by omega) ht
   have h1:(a:Int)<(N:Int):=by omega
   have h0:(0:Int)≤(a:Int):=by omega
   have h2:(a:Int)≤(c:Int):=by omega
   have h3:(a:Int)≤(N:Int):=by omega
   have a63:IntKind.i64.wrap ((a:Int)+16)=(a:Int)+16:=IntWalk.i64_in _ (by have:=HN6.out;omega)
   have t16:(t:Int)<17:=by omega
   have t0:(0:Int)≤(t:Int):=by omega
   have hca:¬ c=a:=by have:=HNC.out;omega
   have ED:=Lib.hid ed;have ET:=Lib.hid et;have EA:=Lib.hid ea;have HK:=Lib.hid hlt
   clear hbs BY ht ed et ea hk haN
   go_wp2_with (fail)
   have hB0:=HB.out
   clear HB
   have RN:=fun X hX=>nrow_new (X:=X) ROW.out hX
   obtain⟨W2,hW⟩:∃ W2,W2=(wr.alloc (.cells #[.int .u8 0,.int .u8 0,.int .u8 0,.int .u8 0,.int .u8 0,.int .u8 0,.int .u8 0,.int .u8 0,.int .u8 0,.int .u8 0,.int .u8 0,.int .u8 0,.int .u8 0,.int .u8 0,.int .u8 0,.int .u8 0,.int .u8 0] 187)):=⟨_,rfl⟩
   have hBx:Below wr.heap.size wr W2:=hW ▸ (Below.al (Below.refl _ _))
   have HX:Hid (Own wr.heap.size (nums .u8 (fun _=>0) 17) W2):=Lib.hid (hW ▸ (show Own wr.heap.size (nums .u8 (fun _=>0) 17) (wr.alloc (.cells #[.int .u8 0,.int .u8 0,.int .u8 0,.int .u8 0,.int .u8 0,.int .u8 0,.int .u8 0,.int .u8 0,.int .u8 0,.int .u8 0,.int .u8 0,.int .u8 0,.int .u8 0,.int .u8 0,.int .u8 0,.int .u8 0,.int .u8 0] 187)) from Own.newAt (by simp)))
   rw[← hW]
   clear hW
   obtain⟨X,eX⟩:∃ X,X=wr.heap.size:=⟨_,rfl⟩
   rw[← eX] at HX ⊢
   have Xw:wr.heap.size≤X:=by omega
   clear eX
   have nXb:X≠b:=by have:=HS.out.lt;omega
   have nbX:b≠X:=Ne.symm nXb
   have Xw2:w.heap.size≤X:=by have:=hB0.size;omega
   have RX:=RN X Xw
   clear Xw RN
   have Xw:=Xw2
   clear Xw2
   have HSk:=Lib.hid (HS.out.later hBx)
   clear HS
   have HS:=HSk
   clear HSk
   replace ROW:=Lib.hid (row_later ROW.out hBx)
   have hB0n:=Below.go hB0 hBx
   clear hB0 hBx
   have hB0:=hB0n
   clear hB0n
   refine wp_region_still_tail 4 (by kernel_rfl) (by kernel_rfl) ?_;simp only[List.take_succ_cons,List.take_zero,List.drop_succ_cons,List.drop_zero];change wpStill _ _ (World.drew _) (fun a1=>wpList _ _ _ _ a1 (World.drew _)) _ _;repeat still_step
   refine wpStill_nil ?_
   have HP:Has b (off+a) (nums .u8 (fun j=>f (16*k+j)) t) W2.drew:=⟨HS.out.drew.lt,fun j v hv=>by
    have hj:j<t:=by have:=(List.getElem?_eq_some_iff.1 hv).1;rwa [nums_length] at this
    rw[nums_at _ _ hj] at hv
    rw[← EA.out] at hv
    have:=ET.out;have:=ED.out
    rw[Nat.add_assoc]
    exact HS.out.drew.at (a+j) v ((nums_at _ _ (by omega)).trans hv)⟩
   have XF:=HX.out.drew.free
   rw[nums_length] at XF
   have hcp:=ncopy_byt X 0 b (off+a) 16 17 (N - a) (c - a) t
   refine nwpList_copy rfl _ _ 47 rfl rfl rfl (hcp _ _ _ (by rw[← ED.out,ET.out,Nat.min_comm]) HP (fun j hj=>XF j (by have:=ET.out;omega))) ?_
   have OX:=Lib.hid (Own.part (o:=0) (vs:=nums .u8 (fun j=>f (16*k+j)) t) HX.out.drew (by rw[nums_length,nums_length];have:=ET.out;omega))
   rw[nover_nums _ _ _ _ (by have:=ET.out;omega)] at OX
   have OS:=Lib.hid (Has.far (c:=X) (o:=0) (vs:=nums .u8 (fun j=>f (16*k+j)) t) HS.out.drew nbX)
   have OB:=Lib.hid (Below.setCells hB0.drew Xw (nums .u8 (fun j=>f (16*k+j)) t) 0)
   have OR:=Lib.hid (nrow_far (row_later ROW.out (Below.refl _ _).drew) RX 0 (nums .u8 (fun j=>f (16*k+j)) t))
   clear HX HS hB0 ROW HP XF hcp
   generalize W2.drew.setCells X 0 (nums .u8 (fun j=>f (16*k+j)) t)=y1 at *
   have tn:t<17:=by omega
   have x0:=OX.out.at t _ (nums_at _ _ tn)
   have xf:=OX.out.ok t (by rw[nums_length];exact tn)
   have Xl:=OX.out.lt
   go_upto_region 9 with fail
   rw[show (y1.setCell ⟨X,t,none⟩ (.int .u8 1))=y1.setCells X t [.int .u8 1] from rfl]
   have OX2:=Lib.hid (BD ▸ own_set (v:=1) OX.out tn)
   have OS2:=Lib.hid (Has.far (c:=X) (o:=t) (vs:=[.int .u8 1]) OS.out nbX)
   have OB2:=Lib.hid (Below.setCells OB.out Xw [.int .u8 1] t)
   have OR2:=Lib.hid (nrow_far OR.out RX t [.int .u8 1])
   clear OX OS OB OR x0 xf Xl BD
   generalize y1.setCells X t [.int .u8 1]=y2 at *
   refine wp_region_lit ?_
   refine wpList_move rfl _ rfl ?_
   refine wpList_load_mid rfl 187 _ rfl X 0 rfl (nums .u8 (blkB f N k) 17) _ OX2.out.cell Tryz.underlying187 rfl (by kernel_rfl) ?_
   refine wpList_build17 rfl _ rfl (blkB f N k) rfl ?_
   have hB0:=OB2.out
   clear OB2 nXb nbX RX Xw
   obtain⟨W3,hW⟩:∃ W3,W3=(y2.alloc (.cells (nums .u8 (blkB f N k) 17).toArray 187)):=⟨_,rfl⟩
   have hBx:Below y2.heap.size y2 W3:=hW ▸ (Below.al (Below.refl _ _))
   have HZ:Hid (Own y2.heap.size (nums .u8 (blkB f N k) 17) W3):=Lib.hid (hW ▸ (show Own y2.heap.size (nums .u8 (blkB f N k) 17) (y2.alloc (.cells (nums .u8 (blkB f N k) 17).toArray 187)) from Own.newAt (by simp)))
   rw[← hW]
   clear hW
   obtain⟨Z,eZ⟩:∃ X,X=y2.heap.size:=⟨_,rfl⟩
   rw[← eZ] at HZ ⊢
   have Zw:y2.heap.size≤Z:=by omega
   clear eZ
   have nZb:Z≠b:=by have:=OS2.out.lt;omega
   have nbZ:b≠Z:=Ne.symm nZb
   have Zw2:w.heap.size≤Z:=by have:=hB0.size;omega
   clear Zw
   have Zw:=Zw2
   clear Zw2
   have OS2k:=Lib.hid (OS2.out.later hBx)
   clear OS2
   have OS2:=OS2k
   clear OS2k
   replace OR2:=Lib.hid (row_later OR2.out hBx)
   have hB0n:=Below.go hB0 hBx
   clear hB0 hBx
   have hB0:=hB0n
   clear hB0n
   have NL:=Lib.hid (show (nums .u8 (blkB f N k) 17).length=1*17 by rw[nums_length])
   have NW:=Lib.hid HZ.out.news
   have k6:k<4097:=by have:=HM.out;have:=HN6.out;omega
   have N63:=Lib.hid (show k+1≤maxLen by unfold maxLen;omega)
   have NBY:=Lib.hid (show (k+1)*17≤140737488355328 by omega)
   have XS:=Lib.hid (show nums .u8 (rowF f N) (k*17) ++ nums .u8 (blkB f N k) 17=nums .u8 (rowF f N) ((k+1)*17) by
    rw[nums_append .u8 (rowF f N) (blkB f N k) (k*17) 17 (fun j hj=>rowF_at f N k j hj),Nat.succ_mul])
   have HS:=Lib.hid hB0.size
   have HB:=Lib.hid hB0
   clear hB0 k6
   go_wp2_with (at_builtin;refine wpList_append_own _ rfl _ _ 189 rfl w.heap.size 187 i0 (.agg (nums .u8 (fun _=>0) 17).toArray) 17 17 Tryz.underlying189 hi hz0 hz1 hz2 rfl (by decide) _ k _ rfl OR2.out ⟨Z,0,none⟩ 1 1 (nums .u8 (blkB f N k) 17) rfl NL.out NW.out (nums_one _ _ _) N63.out NBY.out HS.out ?_;intro v' w6 hrow hgr _;obtain⟨p',c',rfl,_⟩:=row_form hrow;rw[XS.out] at hrow;have o4:=Lib.hid (HB.out.grown hgr HB.out.size fun q hq=>row_ge OR2.out q hq);have o6:=Lib.hid hrow;have o7:=Lib.hid (Or.inr ⟨b,off,rfl,Has.grown OS2.out hgr (row_ne OR2.out bw)⟩:Byt w6 (some ⟨b,off,none⟩) N f);clear hrow hgr)
   go_roundw
   case rel=>(first | exact⟨k+1,_,_,_,HK.out,rfl,rfl,by rw[EA.out];go_num,o6,o7,o4⟩ | ((repeat apply Exists.intro);exact⟨⟨k+1,_,_,_,HK.out,rfl,rfl,by rw[EA.out];go_num,o6,o7,o4⟩,rfl⟩))
   case measure=>(have:=HK.out;have:=EA.out;simp[intOf];omega)
  ·have hkm:k=m:=by omega
   subst hkm
   have hd:decide (a<N)=false:=decide_eq_false (by have:=HM.out;omega)
   clear ea
   go_wp2_with (fail)
   skip
   go_ret
   exact⟨_,rfl,ROW.out,HB.out⟩
end Go.Proofs.YtbilamnnneddmaaGreatDoor
namespace Go.Proofs.YtbilamnnneddmaaGreatDoor
set_option linter.unusedVariables false
set_option maxRecDepth 2000
set_option linter.unusedSimpArgs false
open Go.RowKit
def blkN (f:Nat→Int) (N k:Nat):Nat:=numB (blkB f N k) 17
def horn (r:Nat) (f:Nat→Int) (N:Nat):Nat→Nat
 | 0=>0
 | k+1=>(horn r f N k+blkN f N k)*r%PP
theorem horn_lt (r:Nat) (f:Nat→Int) (N:Nat):∀ k,horn r f N k<PP
 | 0=>(by decide:0<PP)
 | k+1=>Nat.mod_lt _ (by decide)
def facN (kf:Nat→Int):Nat:=numB (clampF kf) 16
theorem facN_lt {kf:Nat→Int} (h:∀ i,i<16→inB (kf i)):facN kf<21267647932558653966460912964485513216:=by
 unfold facN
 have h1:=numB_lt (clampF kf) 15 fun i hi=>in_clampF (h i (by omega))
 have h2:=h 15 (by decide)
 rw[numB,show clampF kf 15=kf 15%16 from rfl]
 unfold inB at h2
 have h3:(kf 15%16).toNat*256 ^ 15≤15*256 ^ 15:=Nat.mul_le_mul_right _ (by omega)
 rw[show (256:Nat) ^ 15=1329227995784915872903807060280344576 from rfl] at *
 omega
theorem blkN_lt {f:Nat→Int} {N:Nat} (h:∀ i,i<N→inB (f i)) (k:Nat):blkN f N k<680564733841876926926749214863536422912:=by
 unfold blkN
 have h1:=numB_lt (blkB f N k) 16 fun i _=>in_blkB h k i
 have h2:blkB f N k 16=0∨blkB f N k 16=1:=by
  unfold blkB
  rw[if_neg (by omega)]
  split
  ·exact .inr rfl
  ·exact .inl rfl
 have e1:numB (blkB f N k) 17=numB (blkB f N k) 16+(blkB f N k 16).toNat*340282366920938463463374607431768211456:=rfl
 rw[show (256:Nat) ^ 16=340282366920938463463374607431768211456 from rfl] at h1
 rw[e1]
 rcases h2 with e | e
 ·rw[e];simp only[Int.toNat_zero,Nat.zero_mul];omega
 ·rw[e,show (1:Int).toNat=1 from rfl];omega
theorem prod_lt {h b r:Nat} (h1:h<PP) (h2:b<680564733841876926926749214863536422912) (h3:r<21267647932558653966460912964485513216):(h+b)*r<2 ^ 255:=by
 have h4:h+b≤2722258935367507707706996859454145691648:=by unfold PP at h1;omega
 have:=Nat.mul_le_mul h4 (Nat.le_of_lt h3)
 have h5:(h+b)*r≤(h+b)*21267647932558653966460912964485513215:=Nat.mul_le_mul_left _ (by omega)
 have h6:(h+b)*21267647932558653966460912964485513215≤2722258935367507707706996859454145691648*21267647932558653966460912964485513215:=Nat.mul_le_mul_right _ h4
 have:2722258935367507707706996859454145691648*21267647932558653966460912964485513215<2 ^ 255:=by decide
 omega
def tagN (kf f:Nat→Int) (n:Nat):Nat:=horn (facN kf) f n ((n+15)/16)+numB (fun i=>kf (16+i)) 16
theorem nrow_has' {w:World} {base size n g cap:Nat} {e:TypeId} {xs:List Value} (h:w.ownsRow base e size (.slice (some ⟨g,0,none⟩) n cap) n xs):Has g 0 xs w∧base≤g:=by
 rcases h.2 with ⟨h0,_⟩ | ⟨g',cap',cur,hv,hg,hh,h1,h2,h3,h4⟩
 ·cases h0
 ·cases hv
  refine⟨⟨(Array.getElem?_eq_some_iff.1 hh).1,fun j v hj=>?_⟩,hg⟩
  rw[cell_of_row w g (0+j) cur e (0,0) hh,Nat.zero_add]
  rw[← h4] at hj
  rw[List.getElem?_take] at hj
  split at hj
  ·simpa using hj
  ·cases hj
def ByG (w:World) (q:Option Addr) (n:Nat) (f:Nat→Int) (B:Nat):Prop:=n=0∨∃ G,q=some ⟨G,0,none⟩∧B≤G∧Has G 0 (nums .u8 f n) w
theorem ByG.later {w w':World} {q:Option Addr} {n B:Nat} {f:Nat→Int} (h:ByG w q n f B) (hb:Below w.heap.size w w'):ByG w' q n f B:=by
 rcases h with h | ⟨b,h1,h2,h3⟩
 ·exact .inl h
 ·exact .inr ⟨b,h1,h2,h3.later hb⟩
theorem ByG.far {w:World} {q:Option Addr} {n B X o:Nat} {f:Nat→Int} {vs:List Value} (h:ByG w q n f B) (hX:X<B):ByG (w.setCells X o vs) q n f B:=by
 rcases h with h | ⟨b,h1,h2,h3⟩
 ·exact .inl h
 ·exact .inr ⟨b,h1,h2,h3.far (by omega)⟩
theorem row_byg {w:World} {base n size:Nat} {e:TypeId} {p:Option Addr} {c:Nat} {f:Nat→Int} (h:w.ownsRow base e size (.slice p n c) n (nums .u8 f (n*size))):ByG w p (n*size) f base:=by
 rcases h.2 with ⟨_,h0⟩ | ⟨X,c',cur,he,h1,_⟩
 ·exact .inl (by rw[h0,Nat.zero_mul])
 ·cases he
  exact .inr ⟨X,rfl,h1,(nrow_has' h).1⟩
def BytU (w:World) (q:Option Addr) (n:Nat) (f:Nat→Int) (B:Nat):Prop:=n=0∨∃ b off,q=some ⟨b,off,none⟩∧b<B∧Has b off (nums .u8 f n) w
theorem Byt.upto {w:World} {q:Option Addr} {n:Nat} {f:Nat→Int} (h:Byt w q n f):BytU w q n f w.heap.size:=by
 rcases h with h | ⟨b,off,h1,h2⟩
 ·exact .inl h
 ·exact .inr ⟨b,off,h1,h2.lt,h2⟩
theorem BytU.byt {w:World} {q:Option Addr} {n B:Nat} {f:Nat→Int} (h:BytU w q n f B):Byt w q n f:=by
 rcases h with h | ⟨b,off,h1,_,h2⟩
 ·exact .inl h
 ·exact .inr ⟨b,off,h1,h2⟩
theorem BytU.later {w w':World} {q:Option Addr} {n B:Nat} {f:Nat→Int} (h:BytU w q n f B) (hb:Below w.heap.size w w'):BytU w' q n f B:=by
 rcases h with h | ⟨b,off,h1,h2,h3⟩
 ·exact .inl h
 ·exact .inr ⟨b,off,h1,h2,h3.later hb⟩
theorem BytU.below {w w':World} {q:Option Addr} {n B:Nat} {f:Nat→Int} (h:BytU w q n f B) (hb:Below B w w'):BytU w' q n f B:=by
 rcases h with h | ⟨b,off,h1,h2,h3⟩
 ·exact .inl h
 ·exact .inr ⟨b,off,h1,h2,h3.below hb h2⟩
theorem BytU.far {w:World} {q:Option Addr} {n B X o:Nat} {f:Nat→Int} {vs:List Value} (h:BytU w q n f B) (hX:B≤X):BytU (w.setCells X o vs) q n f B :=
 h.below (Below.setCells (Below.refl _ _) hX vs o)
theorem BytU.drew {w:World} {q:Option Addr} {n B:Nat} {f:Nat→Int} (h:BytU w q n f B):BytU w.drew q n f B:=h.later (Below.refl _ _).drew
theorem nhas_take {b o n m:Nat} {k:IntKind} {f:Nat→Int} {W:World} (h:Has b o (nums k f n) W) (hm:m≤n):Has b o (nums k f m) W:=⟨h.lt,fun j v hv=>by
 have hj:j<m:=by have:=(List.getElem?_eq_some_iff.1 hv).1;rwa [nums_length] at this
 rw[nums_at _ _ hj] at hv
 exact h.cell j v ((nums_at _ _ (by omega)).trans hv)⟩
theorem nhas_drop {b o n m i:Nat} {k:IntKind} {f:Nat→Int} {W:World} (h:Has b o (nums k f n) W) (hm:i+m≤n):Has b (o+i) (nums k (fun j=>f (i+j)) m) W:=⟨h.lt,fun j v hv=>by
 have hj:j<m:=by have:=(List.getElem?_eq_some_iff.1 hv).1;rwa [nums_length] at this
 rw[nums_at _ _ hj] at hv
 rw[Nat.add_assoc]
 exact h.cell (i+j) v ((nums_at _ _ (by omega)).trans hv)⟩
theorem st4 (w:World) (f:Nat→Int) (c:Array Value) (hc:c.size=4):(storeCells ⟨w.heap.size,0,none⟩ (nums .u64 f 4)).run Tryz.prog (w.alloc (.cells c 214)) = .ok () (w.alloc (.cells (nums .u64 f 4).toArray 214)) :=
 run_storeCells_new (P:=Tryz.prog) w 214 c (nums .u64 f 4).toArray (by rw[nums_size];kernel_rfl) (by rw[nums_size,hc]) (nums_all _ _ _)
theorem st17 (w:World) (f:Nat→Int) (c:Array Value) (hc:c.size=17):(storeCells ⟨w.heap.size,0,none⟩ (nums .u8 f 17)).run Tryz.prog (w.alloc (.cells c 187)) = .ok () (w.alloc (.cells (nums .u8 f 17).toArray 187)) :=
 run_storeCells_new (P:=Tryz.prog) w 187 c (nums .u8 f 17).toArray (by rw[nums_size];kernel_rfl) (by rw[nums_size,hc]) (nums_all _ _ _)
attribute [local go_sem] nums_length st4 st17
set_option maxHeartbeats 4000000 in
theorem tag_any (kf f:Nat→Int) (K off:Nat) (p:Option Addr) (n c:Nat) (hk:∀ i,i<32→inB (kf i)) (hf:∀ i,i<n→inB (f i)) (hn:n≤65536) (hnc:n≤c) (hc:c≤9223372036854775807) (w:World) (hK:Has K off [.slice p n c] w) (hb:Byt w p n f) :
  Calls Tryz.prog 129 #[.pointer (some ⟨K,off,none⟩),(.agg (nums .u8 kf 32).toArray)] w fun e w'=>e = .returned (.agg (nums .u8 (byt (tagN kf f n)) 16).toArray)∧Below w.heap.size w w':=by
 have KB:=Lib.hid hk;have FB:=Lib.hid hf;have HN:=Lib.hid hn;have HNC:=Lib.hid hnc;have HC:=Lib.hid hc
 have HK0:=Lib.hid hK;have BY0:=Lib.hid hb
 have Kw:=hK.lt
 clear hk hf hn hnc hc hK hb
 go_enter Tryz.func129,Tryz.ntmps129
 go_upto_region 2 with fail
 obtain⟨W0,hW⟩:∃ W0,W0=(((w.alloc (.cells (nums .u8 kf 32).toArray 22)).alloc (.cells #[.int .u8 0,.int .u8 0,.int .u8 0,.int .u8 0,.int .u8 0,.int .u8 0,.int .u8 0,.int .u8 0,.int .u8 0,.int .u8 0,.int .u8 0,.int .u8 0,.int .u8 0,.int .u8 0,.int .u8 0,.int .u8 0] 101)).alloc (.cells #[.int .u8 0,.int .u8 0,.int .u8 0,.int .u8 0,.int .u8 0,.int .u8 0,.int .u8 0,.int .u8 0,.int .u8 0,.int .u8 0,.int .u8 0,.int .u8 0,.int .u8 0,.int .u8 0,.int .u8 0,.int .u8 0] 101)):=⟨_,rfl⟩
 have hB0:Below w.heap.size w W0:=hW ▸ (Below.al (Below.al (Below.al (Below.refl _ _))))
 have HY:Hid (Own w.heap.size (nums .u8 kf 32) W0):=Lib.hid (hW ▸ (show Own w.heap.size (nums .u8 kf 32) (w.alloc (.cells (nums .u8 kf 32).toArray 22)) from Own.newAt (by simp)).alloc.alloc)
 have HR:Hid (Own (w.heap.size+1) (nums .u8 (fun _=>0) 16) W0):=Lib.hid (hW ▸ (show Own (w.heap.size+1) (nums .u8 (fun _=>0) 16) ((w.alloc (.cells (nums .u8 kf 32).toArray 22)).alloc (.cells #[.int .u8 0,.int .u8 0,.int .u8 0,.int .u8 0,.int .u8 0,.int .u8 0,.int .u8 0,.int .u8 0,.int .u8 0,.int .u8 0,.int .u8 0,.int .u8 0,.int .u8 0,.int .u8 0,.int .u8 0,.int .u8 0] 101)) from Own.newAt (by simp)).alloc)
 have HX:Hid (Own ((w.heap.size+1)+1) (nums .u8 (fun _=>0) 16) W0):=Lib.hid (hW ▸ (show Own ((w.heap.size+1)+1) (nums .u8 (fun _=>0) 16) (((w.alloc (.cells (nums .u8 kf 32).toArray 22)).alloc (.cells #[.int .u8 0,.int .u8 0,.int .u8 0,.int .u8 0,.int .u8 0,.int .u8 0,.int .u8 0,.int .u8 0,.int .u8 0,.int .u8 0,.int .u8 0,.int .u8 0,.int .u8 0,.int .u8 0,.int .u8 0,.int .u8 0] 101)).alloc (.cells #[.int .u8 0,.int .u8 0,.int .u8 0,.int .u8 0,.int .u8 0,.int .u8 0,.int .u8 0,.int .u8 0,.int .u8 0,.int .u8 0,.int .u8 0,.int .u8 0,.int .u8 0,.int .u8 0,.int .u8 0,.int .u8 0] 101)) from Own.newAt (by simp)))
 rw[← hW]
 clear hW
 obtain⟨X,eX⟩:∃ X,X=((w.heap.size+1)+1):=⟨_,rfl⟩
 rw[← eX] at HX ⊢
 have Xw:w.heap.size≤X:=by omega
 obtain⟨R,eR⟩:∃ X,X=(w.heap.size+1):=⟨_,rfl⟩
 rw[← eR] at HR ⊢
 have Rw:w.heap.size≤R:=by omega
 obtain⟨Y,eY⟩:∃ X,X=w.heap.size:=⟨_,rfl⟩
 rw[← eY] at HY ⊢
 have Yw:w.heap.size≤Y:=by omega
 have nYR:Y≠R:=by omega
 have nRY:R≠Y:=by omega
 have nYX:Y≠X:=by omega
 have nXY:X≠Y:=by omega
 have nRX:R≠X:=by omega
 have nXR:X≠R:=by omega
 clear eY eR eX
 have nKX:K≠X:=by omega
 have HK:=Lib.hid (HK0.out.later hB0)
 have BY:=Lib.hid (BY0.out.upto.below hB0)
 clear HK0 BY0
 refine wp_region_still_tail 2 (by kernel_rfl) (by kernel_rfl) ?_;simp only[List.take_succ_cons,List.take_zero,List.drop_succ_cons,List.drop_zero];change wpStill _ _ (World.drew _) (fun a1=>wpList _ _ _ _ a1 (World.drew _)) _ _;repeat still_step
 refine wpStill_nil ?_
 have HP:=nhas_take HY.out.drew.has (show 16≤32 by decide)
 have XF:=HX.out.drew.free
 rw[nums_length] at XF
 refine nwpList_copy rfl _ _ 47 rfl rfl rfl (ncopy_byt X 0 Y 0 16 16 16 32 16 _ kf _ rfl HP XF) ?_
 have OX:=Lib.hid (Own.store (vs:=nums .u8 kf 16) HX.out.drew (by rw[nums_length,nums_length]))
 have OY:=Lib.hid (Own.far (o:=0) (vs:=nums .u8 kf 16) HY.out.drew nYX)
 have OR:=Lib.hid (Own.far (o:=0) (vs:=nums .u8 kf 16) HR.out.drew nRX)
 have OK:=Lib.hid (Has.far (o:=0) (vs:=nums .u8 kf 16) HK.out.drew nKX)
 have OB:=Lib.hid (BytU.far (o:=0) (vs:=nums .u8 kf 16) BY.out.drew Xw)
 have hB1:=Below.setCells hB0.drew Xw (nums .u8 kf 16) 0
 clear HX HY HR HK BY HP XF hB0
 generalize W0.drew.setCells X 0 (nums .u8 kf 16)=y1 at *
 have hB0:=hB1
 clear hB1
 go_upto_region 3 with fail
 refine wp_region_lit ?_
 refine wpList_load_mid rfl 101 _ rfl X 0 rfl (nums .u8 kf 16) _ OX.out.cell Tryz.underlying101 rfl (by kernel_rfl) ?_
 go_wp2_with (fail)
 go_at_call 155
 refine (Clamp_any kf (fun i hi=>KB.out i (by omega)) _).mono ?_
 rintro e y2 ⟨rfl,hb⟩
 have OXk:=Lib.hid (OX.out.later hb)
 have OYk:=Lib.hid (OY.out.later hb)
 have ORk:=Lib.hid (OR.out.later hb)
 have OKk:=Lib.hid (OK.out.later hb)
 clear OX OY OR OK
 have OX:=OXk
 clear OXk
 have OY:=OYk
 clear OYk
 have OR:=ORk
 clear ORk
 have OK:=OKk
 clear OKk
 replace OB:=Lib.hid (OB.out.later hb)
 have hBn:=Below.go hB0 hb
 clear hB0 hb
 have hB0:=hBn
 clear hBn
 have hst:=store_nums (P:=Tryz.prog) (n:=16) .u8 (clampF kf) OX.out rfl
 go_upto_region 4 with fail
 have obn:=Lib.hid (BytU.far (o:=0) (vs:=nums .u8 (clampF kf) 16) OB.out Xw)
 clear OB
 have OB:=obn
 clear obn
 have OXn:Hid (Own X (nums .u8 (clampF kf) 16) (y2.setCells X 0 (nums .u8 (clampF kf) 16))):=Lib.hid (Own.store OX.out (by simp[nums_length]))
 have OYn:Hid (Own Y (nums .u8 kf 32) (y2.setCells X 0 (nums .u8 (clampF kf) 16))):=Lib.hid (Own.far (o:=0) (vs:=(nums .u8 (clampF kf) 16)) OY.out nYX)
 have ORn:Hid (Own R (nums .u8 (fun _=>0) 16) (y2.setCells X 0 (nums .u8 (clampF kf) 16))):=Lib.hid (Own.far (o:=0) (vs:=(nums .u8 (clampF kf) 16)) OR.out nRX)
 have hB0n:Below w.heap.size w (y2.setCells X 0 (nums .u8 (clampF kf) 16)):=Below.setCells hB0 Xw (nums .u8 (clampF kf) 16) 0
 have OKn:Hid (Has K off [.slice p n c] (y2.setCells X 0 (nums .u8 (clampF kf) 16))):=Lib.hid (Has.far OK.out nKX)
 clear OK
 have OK:=OKn
 clear OKn
 clear OX OY OR hB0
 generalize (y2.setCells X 0 (nums .u8 (clampF kf) 16))=y3 at *
 have OX:=OXn
 clear OXn
 have OY:=OYn
 clear OYn
 have OR:=ORn
 clear ORn
 have hB0:=hB0n
 clear hB0n
 clear hst
 go_wp2_with (fail)
 go_at_call 156
 refine (numberOf_any (clampF kf) X 0 16 16 (fun i hi=>in_clampF (KB.out i (by omega))) (by decide) _ OX.out.has).mono ?_
 rintro e y4 ⟨rfl,hb⟩
 have OXk:=Lib.hid (OX.out.later hb)
 have OYk:=Lib.hid (OY.out.later hb)
 have ORk:=Lib.hid (OR.out.later hb)
 have OKk:=Lib.hid (OK.out.later hb)
 clear OX OY OR OK
 have OX:=OXk
 clear OXk
 have OY:=OYk
 clear OYk
 have OR:=ORk
 clear ORk
 have OK:=OKk
 clear OKk
 replace OB:=Lib.hid (OB.out.later hb)
 have hBn:=Below.go hB0 hb
 clear hB0 hb
 have hB0:=hBn
 clear hBn
 rw[show numB (clampF kf) 16=facN kf from rfl]
 have FL:=Lib.hid (facN_lt (fun i hi=>KB.out i (Nat.lt_trans hi (by decide))))
 go_upto_region 6 with fail
 obtain⟨y6,hW⟩:∃ y6,y6=((y4.alloc (.cells (nums .u64 (limb (facN kf)) 4).toArray 214)).alloc (.cells #[.int .u64 0,.int .u64 0,.int .u64 0,.int .u64 0] 214)):=⟨_,rfl⟩
 have hBx:Below y4.heap.size y4 y6:=hW ▸ (Below.al (Below.al (Below.refl _ _)))
 have HF:Hid (Own y4.heap.size (nums .u64 (limb (facN kf)) 4) y6):=Lib.hid (hW ▸ (show Own y4.heap.size (nums .u64 (limb (facN kf)) 4) (y4.alloc (.cells (nums .u64 (limb (facN kf)) 4).toArray 214)) from Own.newAt (by simp)).alloc)
 have HS:Hid (Own (y4.heap.size+1) (nums .u64 (fun _=>0) 4) y6):=Lib.hid (hW ▸ (show Own (y4.heap.size+1) (nums .u64 (fun _=>0) 4) ((y4.alloc (.cells (nums .u64 (limb (facN kf)) 4).toArray 214)).alloc (.cells #[.int .u64 0,.int .u64 0,.int .u64 0,.int .u64 0] 214)) from Own.newAt (by simp)))
 rw[← hW]
 clear hW
 obtain⟨S,eS⟩:∃ X,X=(y4.heap.size+1):=⟨_,rfl⟩
 rw[← eS] at HS ⊢
 have Sw:y4.heap.size≤S:=by omega
 obtain⟨F,eF⟩:∃ X,X=y4.heap.size:=⟨_,rfl⟩
 rw[← eF] at HF ⊢
 have Fw:y4.heap.size≤F:=by omega
 have nFS:F≠S:=by omega
 have nSF:S≠F:=by omega
 clear eF eS
 have nFX:F≠X:=by have:=OX.out.lt;omega
 have nXF:X≠F:=Ne.symm nFX
 have nFY:F≠Y:=by have:=OY.out.lt;omega
 have nYF:Y≠F:=Ne.symm nFY
 have nFR:F≠R:=by have:=OR.out.lt;omega
 have nRF:R≠F:=Ne.symm nFR
 have nFK:F≠K:=by have:=OK.out.lt;omega
 have nKF:K≠F:=Ne.symm nFK
 have Fw2:w.heap.size≤F:=by have:=hB0.size;omega
 clear Fw
 have Fw:=Fw2
 clear Fw2
 have nSX:S≠X:=by have:=OX.out.lt;omega
 have nXS:X≠S:=Ne.symm nSX
 have nSY:S≠Y:=by have:=OY.out.lt;omega
 have nYS:Y≠S:=Ne.symm nSY
 have nSR:S≠R:=by have:=OR.out.lt;omega
 have nRS:R≠S:=Ne.symm nSR
 have nSK:S≠K:=by have:=OK.out.lt;omega
 have nKS:K≠S:=Ne.symm nSK
 have Sw2:w.heap.size≤S:=by have:=hB0.size;omega
 clear Sw
 have Sw:=Sw2
 clear Sw2
 have OXk:=Lib.hid (OX.out.later hBx)
 have OYk:=Lib.hid (OY.out.later hBx)
 have ORk:=Lib.hid (OR.out.later hBx)
 have OKk:=Lib.hid (OK.out.later hBx)
 clear OX OY OR OK
 have OX:=OXk
 clear OXk
 have OY:=OYk
 clear OYk
 have OR:=ORk
 clear ORk
 have OK:=OKk
 clear OKk
 replace OB:=Lib.hid (OB.out.later hBx)
 have hB0n:=Below.go hB0 hBx
 clear hB0 hBx
 have hB0:=hB0n
 clear hB0n
 have PA:=OK.out.at 0 _ rfl
 rw[Nat.add_zero] at PA
 obtain⟨m,em⟩:∃ m,m=(n+15)/16:=⟨_,rfl⟩
 have n6:(if 65536<(n:Int) then 65536 else (n:Int))=(n:Int):=by have:=HN.out;rw[if_neg (by omega)]
 have Sl60:=HS.out.lt
 go_wp2_with (fail)
 go_at_call 157
 refine (Blocks_any f p n c n m n6 HNC.out HC.out em _ OB.out.byt).mono ?_
 rintro e y7 ⟨v,rfl,hrow,hb⟩
 obtain⟨p3,c3,rfl,hc3⟩:=row_form hrow
 have NC3:=Lib.hid hc3
 have SZ:=Lib.hid (show Below w.heap.size w y6 from hB0)
 have HFk:=Lib.hid (HF.out.later hb)
 have HSk:=Lib.hid (HS.out.later hb)
 have OXk:=Lib.hid (OX.out.later hb)
 have OYk:=Lib.hid (OY.out.later hb)
 have ORk:=Lib.hid (OR.out.later hb)
 clear HF HS OX OY OR
 have HF:=HFk
 clear HFk
 have HS:=HSk
 clear HSk
 have OX:=OXk
 clear OXk
 have OY:=OYk
 clear OYk
 have OR:=ORk
 clear ORk
 have HB:=Lib.hid (Below.go hB0 hb)
 have HM:=Lib.hid em
 have RG:=Lib.hid (row_byg hrow)
 have Sl6:=Sl60
 clear hB0 hb hrow OK OB PA n6 hc3 OX em Sl60
 have y6s:=SZ.out.size
 clear SZ
 have PB:Hid (∀ i,i<n→inB (f i)):=FB
 go_wp2_with (fail)
 obtain⟨r,er⟩:∃ r,facN kf=r:=⟨_,rfl⟩
 rw[er] at HF FL
 have ER:=Lib.hid er
 clear er
 go_loopw [23] (fun iv wr=>∃ (k:Nat),k≤m∧iv = .int .i64 k∧Hid (Below w.heap.size w wr)∧Hid (Own F (nums .u64 (limb r) 4) wr)∧Hid (Own S (nums .u64 (limb (horn r f n k)) 4) wr)∧Hid (Own Y (nums .u8 kf 32) wr)∧Hid (Own R (nums .u8 (fun _=>0) 16) wr)∧Hid (ByG wr p3 (m*17) (rowF f n) y6.heap.size)) (fun iv _=>(m - (intOf iv).toNat))
 case atStart=>exact⟨0,Nat.zero_le _,rfl,HB,HF,Lib.hid (by rw[show nums .u64 (limb (horn r f n 0)) 4=nums .u64 (fun _=>0) 4 from nums_congr _ fun j _=>by simp[limb,horn]];exact HS.out),OY,OR,RG⟩
 case round =>
  clear HB HF HS OY OR RG
  obtain⟨k,hk,rfl,HB,HF,HS,OY,OR,RG⟩:=hrel
  by_cases hlt:k<m
  ·obtain⟨G,rfl,hG,HG⟩:∃ G,p3=some ⟨G,0,none⟩∧y6.heap.size≤G∧Has G 0 (nums .u8 (rowF f n) (m*17)) wr:=RG.out.resolve_left (by omega)
   have HBK:Hid (Has G (k*17) (nums .u8 (blkB f n k) 17) wr):=Lib.hid (by
    have h:=nhas_drop HG (show k*17+17≤m*17 by have:=Nat.mul_le_mul_right 17 (show k+1≤m from hlt);omega)
    rwa [Nat.zero_add,nums_congr (g:=blkB f n k) .u8 (fun j hj=>rowF_at f n k j hj)] at h)
   have ROWG:=Lib.hid (show ByG wr (some ⟨G,0,none⟩) (m*17) (rowF f n) y6.heap.size from .inr ⟨G,rfl,hG,HG⟩)
   have k0:(0:Int)≤(k:Int):=by omega
   have k1:(k:Int)<(m:Int):=by omega
   have k63:(k:Int)+1≤9223372036854775807:=by have:=HM.out;have:=HN.out;omega
   have HK:=Lib.hid hlt
   clear HG RG hk
   go_upto_region 8 with fail
   refine wp_region_lit ?_
   refine wpList_plain rfl fun K_ hK=>?_
   go_simp
   refine hK _ _ ?_
   clear hK K_
   refine wpList_load_mid rfl 187 _ rfl G (k*17) rfl (nums .u8 (blkB f n k) 17) _ HBK.out.cell Tryz.underlying187 rfl (by kernel_rfl) ?_
   go_upto_region 9 with fail
   have hB0:=HB.out
   clear HB
   obtain⟨y8,hW⟩:∃ y8,y8=(wr.alloc (.cells (nums .u8 (blkB f n k) 17).toArray 187)):=⟨_,rfl⟩
   have hBx:Below wr.heap.size wr y8:=hW ▸ (Below.al (Below.refl _ _))
   have HBL:Hid (Own wr.heap.size (nums .u8 (blkB f n k) 17) y8):=Lib.hid (hW ▸ (show Own wr.heap.size (nums .u8 (blkB f n k) 17) (wr.alloc (.cells (nums .u8 (blkB f n k) 17).toArray 187)) from Own.newAt (by simp)))
   rw[← hW]
   clear hW
   obtain⟨B_,eB_⟩:∃ X,X=wr.heap.size:=⟨_,rfl⟩
   rw[← eB_] at HBL ⊢
   have B_w:wr.heap.size≤B_:=by omega
   clear eB_
   have nB_F:B_≠F:=by have:=HF.out.lt;omega
   have nFB_:F≠B_:=Ne.symm nB_F
   have nB_S:B_≠S:=by have:=HS.out.lt;omega
   have nSB_:S≠B_:=Ne.symm nB_S
   have nB_Y:B_≠Y:=by have:=OY.out.lt;omega
   have nYB_:Y≠B_:=Ne.symm nB_Y
   have nB_R:B_≠R:=by have:=OR.out.lt;omega
   have nRB_:R≠B_:=Ne.symm nB_R
   have B_w2:w.heap.size≤B_:=by have:=hB0.size;omega
   clear B_w
   have B_w:=B_w2
   clear B_w2
   have HFk:=Lib.hid (HF.out.later hBx)
   have HSk:=Lib.hid (HS.out.later hBx)
   have OYk:=Lib.hid (OY.out.later hBx)
   have ORk:=Lib.hid (OR.out.later hBx)
   clear HF HS OY OR
   have HF:=HFk
   clear HFk
   have HS:=HSk
   clear HSk
   have OY:=OYk
   clear OYk
   have OR:=ORk
   clear ORk
   replace ROWG:=Lib.hid (ROWG.out.later hBx)
   clear HBK
   have hB0n:=Below.go hB0 hBx
   clear hB0 hBx
   have hB0:=hB0n
   clear hB0n
   have CN:=Lib.hid (fun w h=>numberOf_any (blkB f n k) B_ 0 17 17 (fun i _=>in_blkB PB.out k i) (by decide) w h)
   rw[show numB (blkB f n k) 17=blkN f n k from rfl] at CN
   have bl:=blkN_lt PB.out k
   have hl:=horn_lt r f n k
   have fl:=FL.out
   have CP:=Lib.hid (fun w=>plus_any (horn r f n k) (blkN f n k) w)
   have CT:=Lib.hid (fun w=>times_any (horn r f n k+blkN f n k) r (by omega) w)
   have CR:=Lib.hid (fun w=>rest_any ((horn r f n k+blkN f n k)*r) (prod_lt hl bl fl) w)
   rw[show (horn r f n k+blkN f n k)*r%PP=horn r f n (k+1) from rfl] at CR
   clear bl hl fl
   generalize (horn r f n k+blkN f n k)*r=n3 at *
   generalize horn r f n k+blkN f n k=n2 at *
   generalize blkN f n k=n1 at *
   obtain⟨h1,eh1⟩:∃ h1,horn r f n (k+1)=h1:=⟨_,rfl⟩
   rw[eh1] at CR
   have EH:=Lib.hid eh1
   clear eh1
   generalize horn r f n k=h0 at *
   refine wp_region_fun 8 (by kernel_rfl) (by kernel_rfl) rfl (fun s b=>⟨#[.pointer (some ⟨K,off,none⟩),(.agg (nums .u8 kf 32).toArray),undef,.pointer (some ⟨Y,0,none⟩),.pointer (some ⟨R,0,none⟩),.pointer (some ⟨X,0,none⟩),.pointer (some ⟨F,0,none⟩),.pointer (some ⟨S,0,none⟩),undef,.pointer (some ⟨B_,0,none⟩),.slice (some ⟨X,0,none⟩) 16 16,.slice (some ⟨Y,0,none⟩) 16 32,.int .i64 16,.agg (nums .u8 kf 16).toArray,.agg (nums .u8 (clampF kf) 16).toArray,.slice (some ⟨X,0,none⟩) 16 16,(.agg (nums .u64 (limb (facN kf)) 4).toArray),.pointer (some ⟨K,off,none⟩),.pointer (some ⟨K,off,none⟩),.pointer (some ⟨K,off,none⟩),.slice p n c,.slice (some ⟨G,0,none⟩) m c3,.int .i64 m,.int .i64 k,.bool true,.pointer (some ⟨G,(k*17),none⟩),.agg (nums .u8 (blkB f n k) 17).toArray,s 27,s 28,s 29,s 30,s 31,s 32,s 33,u34,undef,undef,undef,undef,undef],[]⟩) (fun d s b w=>(d 7=false→Below y8.heap.size y8 w)∧(d 0=true→s 27=(.agg (nums .u64 (limb h0) 4).toArray))∧(d 1=true→s 28 = .slice (some ⟨B_,0,none⟩) 17 17)∧(d 2=true→s 29=(.agg (nums .u64 (limb n1) 4).toArray))∧(d 3=true→s 30=(.agg (nums .u64 (limb n2) 4).toArray))∧(d 4=true→s 31=(.agg (nums .u64 (limb r) 4).toArray))∧(d 5=true→s 32=(.agg (nums .u64 (limb n3) 4).toArray))∧(d 6=true→s 33=(.agg (nums .u64 (limb h1) 4).toArray))∧(d 7=true→∀ j,j<7→d j=true)∧(d 7=true→∃ w2,Below y8.heap.size y8 w2∧w=w2.setCells S 0 (nums .u64 (limb h1) 4))) rfl ?h0z1 (?stz1:StepsF _ _ _ _ 8 _ _ [0,1,2,3,4,5,6,7]) ?dnz1
   case h0z1=>exact⟨fun _=>Below.drew (Below.refl _ _),by repeat (first | exact nf_ | refine⟨nf_,?_⟩)⟩
   case stz1 =>
    refine sc_ rfl [] (fun d s b w hF hd hw K_ hK=>?_) ?_
    ·have hk:=nd_ (p8_ hF.out) hd
     have hB:Below y8.heap.size y8 w:=(p0_ hF.out) hk
     refine step_load (by simp[Region.wanted]) 214 _ rfl S 0 rfl (nums .u64 (limb h0) 4) _ (HS.out.later hB).cell Tryz.underlying214 rfl (by kernel_rfl) ?_
     exact hK.out (ups s 27 ((.agg (nums .u64 (limb h0) 4).toArray))) b _ ⟨(fun _=>hB),(fun _=>rfl),k6_ hF.out.2.2 fun t=>⟨(fun h=>ab_ (p8_ hF.out h) hd),(fun h=>ab_ (p8_ hF.out h) hd)⟩⟩
    refine sc_ rfl [] (fun d s b w hF hd hw K_ hK=>?_) ?_
    ·have hk:=nd_ (p8_ hF.out) hd
     have hB:Below y8.heap.size y8 w:=(p0_ hF.out) hk
     dsimp only
     go_simp
     exact hK.out (ups s 28 (.slice (some ⟨B_,0,none⟩) 17 17)) b _ ⟨(fun _=>hB),(p1_ hF.out),(fun _=>rfl),k5_ hF.out.2.2.2 fun t=>⟨(fun h=>ab_ (p8_ hF.out h) hd),(fun h=>ab_ (p8_ hF.out h) hd)⟩⟩
    refine sc_ rfl [1] (fun d s b w hF hd hw K_ hK=>?_) ?_
    ·have hk:=nd_ (p8_ hF.out) hd
     have hB:Below y8.heap.size y8 w:=(p0_ hF.out) hk
     have e1:=p2_ hF.out (hw 1 (by decide))
     dsimp only
     go_simp
     go_at_call 156
     refine (CN.out _ (HBL.out.later hB).has).mono ?_
     rintro e w1 ⟨rfl,hb⟩
     exact hK.out (ups (ups s 28 (.slice (some ⟨B_,0,none⟩) 17 17)) 29 ((.agg (nums .u64 (limb n1) 4).toArray))) b _ ⟨(fun _=>(Below.go hB hb)),(p1_ hF.out),(fun _=>rfl),(fun _=>rfl),k4_ hF.out.2.2.2.2 fun t=>⟨(fun h=>ab_ (p8_ hF.out h) hd),(fun h=>ab_ (p8_ hF.out h) hd)⟩⟩
    refine sc_ rfl [0,2,2] (fun d s b w hF hd hw K_ hK=>?_) ?_
    ·have hk:=nd_ (p8_ hF.out) hd
     have hB:Below y8.heap.size y8 w:=(p0_ hF.out) hk
     have e0:=p1_ hF.out (hw 0 (by decide))
     have e2:=p3_ hF.out (hw 2 (by decide))
     dsimp only
     go_simp
     go_at_call 160
     refine (CP.out _).mono ?_
     rintro e w1 ⟨rfl,hb⟩
     exact hK.out (ups (ups (ups s 27 ((.agg (nums .u64 (limb h0) 4).toArray))) 29 ((.agg (nums .u64 (limb n1) 4).toArray))) 30 ((.agg (nums .u64 (limb n2) 4).toArray))) b _ ⟨(fun _=>(Below.go hB hb)),(fun _=>rfl),(p2_ hF.out),(fun _=>rfl),(fun _=>rfl),k3_ hF.out.2.2.2.2.2 fun t=>⟨(fun h=>ab_ (p8_ hF.out h) hd),(fun h=>ab_ (p8_ hF.out h) hd)⟩⟩
    refine sc_ rfl [] (fun d s b w hF hd hw K_ hK=>?_) ?_
    ·have hk:=nd_ (p8_ hF.out) hd
     have hB:Below y8.heap.size y8 w:=(p0_ hF.out) hk
     refine step_load (by simp[Region.wanted]) 214 _ rfl F 0 rfl (nums .u64 (limb r) 4) _ (HF.out.later hB).cell Tryz.underlying214 rfl (by kernel_rfl) ?_
     exact hK.out (ups s 31 ((.agg (nums .u64 (limb r) 4).toArray))) b _ ⟨(fun _=>hB),k4_ hF.out.2 fun t=>⟨(fun _=>rfl),k2_ t.2 fun t=>⟨(fun h=>ab_ (p8_ hF.out h) hd),(fun h=>ab_ (p8_ hF.out h) hd)⟩⟩⟩
    refine sc_ rfl [3,4,3] (fun d s b w hF hd hw K_ hK=>?_) ?_
    ·have hk:=nd_ (p8_ hF.out) hd
     have hB:Below y8.heap.size y8 w:=(p0_ hF.out) hk
     have e3:=p4_ hF.out (hw 3 (by decide))
     have e4:=p5_ hF.out (hw 4 (by decide))
     dsimp only
     go_simp
     go_at_call 159
     refine (CT.out _).mono ?_
     rintro e w1 ⟨rfl,hb⟩
     exact hK.out (ups (ups (ups s 30 ((.agg (nums .u64 (limb n2) 4).toArray))) 31 ((.agg (nums .u64 (limb r) 4).toArray))) 32 ((.agg (nums .u64 (limb n3) 4).toArray))) b _ ⟨(fun _=>(Below.go hB hb)),k3_ hF.out.2 fun t=>⟨(fun _=>rfl),(fun _=>rfl),(fun _=>rfl),t.2.2.2.1,(fun h=>ab_ (p8_ hF.out h) hd),(fun h=>ab_ (p8_ hF.out h) hd)⟩⟩
    refine sc_ rfl [5,5] (fun d s b w hF hd hw K_ hK=>?_) ?_
    ·have hk:=nd_ (p8_ hF.out) hd
     have hB:Below y8.heap.size y8 w:=(p0_ hF.out) hk
     have e5:=p6_ hF.out (hw 5 (by decide))
     dsimp only
     go_simp
     go_at_call 158
     refine (CR.out _).mono ?_
     rintro e w1 ⟨rfl,hb⟩
     exact hK.out (ups (ups s 32 ((.agg (nums .u64 (limb n3) 4).toArray))) 33 ((.agg (nums .u64 (limb h1) 4).toArray))) b _ ⟨(fun _=>(Below.go hB hb)),k5_ hF.out.2 fun t=>⟨(fun _=>rfl),(fun _=>rfl),(fun h=>ab_ (p8_ hF.out h) hd),(fun h=>ab_ (p8_ hF.out h) hd)⟩⟩
    refine sc_ rfl [6,6,0,1,2,3,4,5,6] (fun d s b w hF hd hw K_ hK=>?_) ?_
    ·have hB:Below y8.heap.size y8 w:=(p0_ hF.out) hd
     have e0:=p1_ hF.out (hw 0 (by decide))
     have e1:=p2_ hF.out (hw 1 (by decide))
     have e2:=p3_ hF.out (hw 2 (by decide))
     have e3:=p4_ hF.out (hw 3 (by decide))
     have e4:=p5_ hF.out (hw 4 (by decide))
     have e5:=p6_ hF.out (hw 5 (by decide))
     have e6:=p7_ hF.out (hw 6 (by decide))
     dsimp only
     have oz:=HS.out.later hB
     have hst:=store_nums (P:=Tryz.prog) (n:=4) .u64 (limb h1) oz rfl
     have oX:=HS.out.later hB
     clear oX
     go_simp
     exact hK.out (ups (ups (ups (ups (ups (ups (ups s 27 ((.agg (nums .u64 (limb h0) 4).toArray))) 28 (.slice (some ⟨B_,0,none⟩) 17 17)) 29 ((.agg (nums .u64 (limb n1) 4).toArray))) 30 ((.agg (nums .u64 (limb n2) 4).toArray))) 31 ((.agg (nums .u64 (limb r) 4).toArray))) 32 ((.agg (nums .u64 (limb n3) 4).toArray))) 33 ((.agg (nums .u64 (limb h1) 4).toArray))) b _ ⟨(fun h=>nomatch h),(fun _=>rfl),(fun _=>rfl),(fun _=>rfl),(fun _=>rfl),(fun _=>rfl),(fun _=>rfl),(fun _=>rfl),(fun _ j hj=>by have hj2:=hw j (by simp;omega);simp[upd,hj2]),(fun _=>⟨w,hB,rfl⟩)⟩
    exact StepsF.nil
   intro d s b z1 hF hall
   replace hF:=Lib.hid hF
   obtain⟨z1,hB,rfl⟩:=(q9_ hF.out) (hall 7 (by decide))
   try dsimp only
   have e0:s 27=(.agg (nums .u64 (limb h0) 4).toArray):=(p1_ hF.out) (hall 0 (by decide))
   have e1:s 28 = .slice (some ⟨B_,0,none⟩) 17 17:=(p2_ hF.out) (hall 1 (by decide))
   have e2:s 29=(.agg (nums .u64 (limb n1) 4).toArray):=(p3_ hF.out) (hall 2 (by decide))
   have e3:s 30=(.agg (nums .u64 (limb n2) 4).toArray):=(p4_ hF.out) (hall 3 (by decide))
   have e4:s 31=(.agg (nums .u64 (limb r) 4).toArray):=(p5_ hF.out) (hall 4 (by decide))
   have e5:s 32=(.agg (nums .u64 (limb n3) 4).toArray):=(p6_ hF.out) (hall 5 (by decide))
   have e6:s 33=(.agg (nums .u64 (limb h1) 4).toArray):=(p7_ hF.out) (hall 6 (by decide))
   rw[e0,e1,e2,e3,e4,e5,e6]
   clear hall hF e0 e1 e2 e3 e4 e5 e6
   clear d s b
   have o1:=Lib.hid (Own.store (vs:=nums .u64 (limb h1) 4) (HS.out.later hB) rfl)
   have o2:=Lib.hid (Own.far (o:=0) (vs:=nums .u64 (limb h1) 4) (HF.out.later hB) nFS)
   have o3:=Lib.hid (Own.far (o:=0) (vs:=nums .u64 (limb h1) 4) (OY.out.later hB) nYS)
   have o4:=Lib.hid (Own.far (o:=0) (vs:=nums .u64 (limb h1) 4) (OR.out.later hB) nRS)
   have o5:=Lib.hid (ByG.far (o:=0) (vs:=nums .u64 (limb h1) 4) (ROWG.out.later hB) Sl6)
   have o6:=Lib.hid (Below.setCells (Below.go hB0 hB) Sw (nums .u64 (limb h1) 4) 0)
   clear HF HS OY OR HBL ROWG hB0 hB CN CP CT CR
   go_wp2_with (fail)
   go_roundw
   case rel=>(first | exact⟨k+1,HK.out,by go_num,o6,o2,by rw[EH.out];exact o1,o3,o4,o5⟩ | ((repeat apply Exists.intro);exact⟨⟨k+1,HK.out,by go_num,o6,o2,by rw[EH.out];exact o1,o3,o4,o5⟩,rfl⟩))
   case measure=>(have:=HK.out;simp[intOf];omega)
  ·have hkm:k=m:=by omega
   subst hkm
   have hl:=horn_lt r f n k
   clear hk
   have SN:Hid (∀ w,Has Y 16 (nums .u8 (fun i=>kf (16+i)) 16) w→Calls Tryz.prog 156 #[.slice (some ⟨Y,16,none⟩) 16 16] w fun e w'=>e = .returned (.agg (nums .u64 (limb (numB (fun i=>kf (16+i)) 16)) 4).toArray)∧Below w.heap.size w w'):=Lib.hid (fun w h=>numberOf_any (fun i=>kf (16+i)) Y 16 16 16 (fun i hi=>KB.out _ (by omega)) (by decide) w h)
   have CP:=Lib.hid (fun w=>plus_any (horn r f n k) (numB (fun i=>kf (16+i)) 16) w)
   have CL:=Lib.hid (fun w=>lowest_any (horn r f n k+numB (fun i=>kf (16+i)) 16) w)
   have TE:tagN kf f n=horn r f n k+numB (fun i=>kf (16+i)) 16:=by rw[← ER.out,HM.out];rfl
   rw[← TE] at CP CL
   clear TE
   have HD:Hid (∀ w,Own Y (nums .u8 kf 32) w→Has Y 16 (nums .u8 (fun i=>kf (16+i)) 16) w):=Lib.hid fun w h=>(nhas_drop h.has (show 16+16≤32 by decide))
   obtain⟨T_,eT⟩:∃ T_,tagN kf f n=T_:=⟨_,rfl⟩
   rw[eT] at CP CL
   have ET:=Lib.hid eT
   clear eT
   generalize horn r f n k=h0 at *
   generalize numB (fun i=>kf (16+i)) 16=s0_ at *
   clear hl
   go_upto_region 11 with fail
   refine wp_region_fun 6 (by kernel_rfl) (by kernel_rfl) rfl (fun s b=>⟨#[.pointer (some ⟨K,off,none⟩),(.agg (nums .u8 kf 32).toArray),undef,.pointer (some ⟨Y,0,none⟩),.pointer (some ⟨R,0,none⟩),.pointer (some ⟨X,0,none⟩),.pointer (some ⟨F,0,none⟩),.pointer (some ⟨S,0,none⟩),undef,u9,.slice (some ⟨X,0,none⟩) 16 16,.slice (some ⟨Y,0,none⟩) 16 32,.int .i64 16,.agg (nums .u8 kf 16).toArray,.agg (nums .u8 (clampF kf) 16).toArray,.slice (some ⟨X,0,none⟩) 16 16,(.agg (nums .u64 (limb (facN kf)) 4).toArray),.pointer (some ⟨K,off,none⟩),.pointer (some ⟨K,off,none⟩),.pointer (some ⟨K,off,none⟩),.slice p n c,.slice p3 k c3,.int .i64 k,.int .i64 k,.bool false,u25,u26,u27,u28,u29,u30,u31,u32,u33,u34,s 35,s 36,s 37,s 38,s 39],[]⟩) (fun d s b w=>(d 5=false→Below wr.heap.size wr w)∧(d 0=true→s 35=(.agg (nums .u64 (limb h0) 4).toArray))∧(d 1=true→s 36 = .slice (some ⟨Y,16,none⟩) 16 16)∧(d 2=true→s 37=(.agg (nums .u64 (limb s0_) 4).toArray))∧(d 3=true→s 38=(.agg (nums .u64 (limb T_) 4).toArray))∧(d 4=true→s 39 = .agg (nums .u8 (byt T_) 16).toArray)∧(d 5=true→∀ j,j<5→d j=true)∧(d 5=true→∃ w2,Below wr.heap.size wr w2∧w=w2.setCells R 0 (nums .u8 (byt T_) 16))) rfl ?h0z2 (?stz2:StepsF _ _ _ _ 6 _ _ [0,1,2,3,4,5]) ?dnz2
   case h0z2=>exact⟨fun _=>Below.drew (Below.refl _ _),by repeat (first | exact nf_ | refine⟨nf_,?_⟩)⟩
   case stz2 =>
    refine sc_ rfl [] (fun d s b w hF hd hw K_ hK=>?_) ?_
    ·have hk:=nd_ (p6_ hF.out) hd
     have hB:Below wr.heap.size wr w:=(p0_ hF.out) hk
     refine step_load (by simp[Region.wanted]) 214 _ rfl S 0 rfl (nums .u64 (limb h0) 4) _ (HS.out.later hB).cell Tryz.underlying214 rfl (by kernel_rfl) ?_
     exact hK.out (ups s 35 ((.agg (nums .u64 (limb h0) 4).toArray))) b _ ⟨(fun _=>hB),(fun _=>rfl),k4_ hF.out.2.2 fun t=>⟨(fun h=>ab_ (p6_ hF.out h) hd),(fun h=>ab_ (p6_ hF.out h) hd)⟩⟩
    refine sc_ rfl [] (fun d s b w hF hd hw K_ hK=>?_) ?_
    ·have hk:=nd_ (p6_ hF.out) hd
     have hB:Below wr.heap.size wr w:=(p0_ hF.out) hk
     dsimp only
     go_simp
     exact hK.out (ups s 36 (.slice (some ⟨Y,16,none⟩) 16 16)) b _ ⟨(fun _=>hB),(p1_ hF.out),(fun _=>rfl),k3_ hF.out.2.2.2 fun t=>⟨(fun h=>ab_ (p6_ hF.out h) hd),(fun h=>ab_ (p6_ hF.out h) hd)⟩⟩
    refine sc_ rfl [1] (fun d s b w hF hd hw K_ hK=>?_) ?_
    ·have hk:=nd_ (p6_ hF.out) hd
     have hB:Below wr.heap.size wr w:=(p0_ hF.out) hk
     have e1:=p2_ hF.out (hw 1 (by decide))
     dsimp only
     go_simp
     go_at_call 156
     refine (SN.out _ (HD.out _ (OY.out.later hB))).mono ?_
     rintro e w1 ⟨rfl,hb⟩
     exact hK.out (ups (ups s 36 (.slice (some ⟨Y,16,none⟩) 16 16)) 37 ((.agg (nums .u64 (limb s0_) 4).toArray))) b _ ⟨(fun _=>(Below.go hB hb)),(p1_ hF.out),(fun _=>rfl),(fun _=>rfl),k2_ hF.out.2.2.2.2 fun t=>⟨(fun h=>ab_ (p6_ hF.out h) hd),(fun h=>ab_ (p6_ hF.out h) hd)⟩⟩
    refine sc_ rfl [0,2,2] (fun d s b w hF hd hw K_ hK=>?_) ?_
    ·have hk:=nd_ (p6_ hF.out) hd
     have hB:Below wr.heap.size wr w:=(p0_ hF.out) hk
     have e0:=p1_ hF.out (hw 0 (by decide))
     have e2:=p3_ hF.out (hw 2 (by decide))
     dsimp only
     go_simp
     go_at_call 160
     refine (CP.out _).mono ?_
     rintro e w1 ⟨rfl,hb⟩
     exact hK.out (ups (ups (ups s 35 ((.agg (nums .u64 (limb h0) 4).toArray))) 37 ((.agg (nums .u64 (limb s0_) 4).toArray))) 38 ((.agg (nums .u64 (limb T_) 4).toArray))) b _ ⟨(fun _=>(Below.go hB hb)),(fun _=>rfl),(p2_ hF.out),(fun _=>rfl),(fun _=>rfl),(p5_ hF.out),(fun h=>ab_ (p6_ hF.out h) hd),(fun h=>ab_ (p6_ hF.out h) hd)⟩
    refine sc_ rfl [3,3] (fun d s b w hF hd hw K_ hK=>?_) ?_
    ·have hk:=nd_ (p6_ hF.out) hd
     have hB:Below wr.heap.size wr w:=(p0_ hF.out) hk
     have e3:=p4_ hF.out (hw 3 (by decide))
     dsimp only
     go_simp
     go_at_call 161
     refine (CL.out _).mono ?_
     rintro e w1 ⟨rfl,hb⟩
     exact hK.out (ups (ups s 38 ((.agg (nums .u64 (limb T_) 4).toArray))) 39 (.agg (nums .u8 (byt T_) 16).toArray)) b _ ⟨(fun _=>(Below.go hB hb)),k3_ hF.out.2 fun t=>⟨(fun _=>rfl),(fun _=>rfl),(fun h=>ab_ (p6_ hF.out h) hd),(fun h=>ab_ (p6_ hF.out h) hd)⟩⟩
    refine sc_ rfl [4,4,0,1,2,3,4] (fun d s b w hF hd hw K_ hK=>?_) ?_
    ·have hB:Below wr.heap.size wr w:=(p0_ hF.out) hd
     have e0:=p1_ hF.out (hw 0 (by decide))
     have e1:=p2_ hF.out (hw 1 (by decide))
     have e2:=p3_ hF.out (hw 2 (by decide))
     have e3:=p4_ hF.out (hw 3 (by decide))
     have e4:=p5_ hF.out (hw 4 (by decide))
     dsimp only
     have oz:=OR.out.later hB
     have hst:=store_nums (P:=Tryz.prog) (n:=16) .u8 (byt T_) oz rfl
     have oX:=OR.out.later hB
     clear oX
     go_simp
     exact hK.out (ups (ups (ups (ups (ups s 35 ((.agg (nums .u64 (limb h0) 4).toArray))) 36 (.slice (some ⟨Y,16,none⟩) 16 16)) 37 ((.agg (nums .u64 (limb s0_) 4).toArray))) 38 ((.agg (nums .u64 (limb T_) 4).toArray))) 39 (.agg (nums .u8 (byt T_) 16).toArray)) b _ ⟨(fun h=>nomatch h),(fun _=>rfl),(fun _=>rfl),(fun _=>rfl),(fun _=>rfl),(fun _=>rfl),(fun _ j hj=>by have hj2:=hw j (by simp;omega);simp[upd,hj2]),(fun _=>⟨w,hB,rfl⟩)⟩
    exact StepsF.nil
   intro d s b z2 hF hall
   replace hF:=Lib.hid hF
   obtain⟨z2,hB,rfl⟩:=(q7_ hF.out) (hall 5 (by decide))
   try dsimp only
   have e0:s 35=(.agg (nums .u64 (limb h0) 4).toArray):=(p1_ hF.out) (hall 0 (by decide))
   have e1:s 36 = .slice (some ⟨Y,16,none⟩) 16 16:=(p2_ hF.out) (hall 1 (by decide))
   have e2:s 37=(.agg (nums .u64 (limb s0_) 4).toArray):=(p3_ hF.out) (hall 2 (by decide))
   have e3:s 38=(.agg (nums .u64 (limb T_) 4).toArray):=(p4_ hF.out) (hall 3 (by decide))
   have e4:s 39 = .agg (nums .u8 (byt T_) 16).toArray:=(p5_ hF.out) (hall 4 (by decide))
   rw[e0,e1,e2,e3,e4]
   clear hall hF e0 e1 e2 e3 e4
   clear d s b
   have OR1:=Lib.hid (Own.store (vs:=nums .u8 (byt T_) 16) (OR.out.later hB) rfl)
   have hB1:=Below.setCells (Below.go HB.out hB) Rw (nums .u8 (byt T_) 16) 0
   go_wp2_with (fail)
   have hL:=run_loadVar_mid (P:=Tryz.prog) _ R 0 101 (nums .u8 (byt T_) 16) _ OR1.out.cell Tryz.underlying101 rfl (by kernel_rfl)
   exact bodyPost_ret (v := .agg (nums .u8 (byt T_) 16).toArray) (res_cell Tryz.results129 rfl hL) rfl ⟨by rw[ET.out],hB1⟩
end Go.Proofs.YtbilamnnneddmaaGreatDoor
namespace Go.Proofs.YtbilamnnneddmaaGreatDoor
set_option linter.unusedVariables false
set_option maxRecDepth 2000
set_option linter.unusedSimpArgs false
open Go.RowKit
structure nBut (K:Nat) (w w':World):Prop where
 below:Below K w w'
 heap:∀ b,b<w.heap.size→b≠K→w'.heap[b]?=w.heap[b]?
theorem nBut.refl (K:Nat) (w:World):nBut K w w:=⟨Below.refl _ _,fun _ _ _=>rfl⟩
theorem nBut.trans {K:Nat} {a b c:World} (h:nBut K a b) (k:nBut K b c):nBut K a c:=⟨h.below.trans k.below,fun i hi hn=>(k.heap i (Nat.lt_of_lt_of_le hi h.below.size) hn).trans (h.heap i hi hn)⟩
theorem nBut.of {K:Nat} {a b:World} (h:Below a.heap.size a b) (hK:K<a.heap.size):nBut K a b:=⟨h.mono (Nat.le_of_lt hK),fun i hi _=>h.block i hi⟩
theorem nBut.store {K o:Nat} {a:World} {vs:List Value}:nBut K a (a.setCells K o vs):=⟨Below.setCells (Below.refl _ _) (Nat.le_refl _) vs o,fun i hi hn=>World.heap_setCells_other a K o vs hi hn⟩
theorem nBut.drew {K:Nat} {a:World} (hK:K<a.heap.size):nBut K a a.drew:=nBut.of (Below.refl _ _).drew hK
theorem Has.nbut {b o K:Nat} {cs:List Value} {w w':World} (h:Has b o cs w) (hb:nBut K w w') (hn:b≠K):Has b o cs w' where
 lt:=Nat.lt_of_lt_of_le h.lt hb.below.size
 cell:=fun j v hv=>by rw[World.cell?_of_block (w:=w) (a:=⟨b,o+j,none⟩) (hb.heap b h.lt hn)];exact h.cell j v hv
theorem Own.nbut {b K:Nat} {cs:List Value} {w w':World} (h:Own b cs w) (hb:nBut K w w') (hn:b≠K):Own b cs w' where
 lt:=Nat.lt_of_lt_of_le h.lt hb.below.size
 cell:=fun j v hv=>by rw[World.cell?_of_block (w:=w) (a:=⟨b,0+j,none⟩) (hb.heap b h.lt hn)];exact h.cell j v hv
 free:=fun j hj=>by
  rw[World.cell?_of_block (w:=w) (a:=⟨b,0+j,none⟩) (hb.heap b h.lt hn),World.frozen?_of_block (w:=w) (a:=⟨b,0+j,none⟩) (hb.heap b h.lt hn)]
  exact h.free j hj
def nBytN (w:World) (q:Option Addr) (n:Nat) (f:Nat→Int) (K:Nat):Prop:=n=0∨∃ b off,q=some ⟨b,off,none⟩∧b≠K∧Has b off (nums .u8 f n) w
theorem nBytN.nbut {w w':World} {q:Option Addr} {n K:Nat} {f:Nat→Int} (h:nBytN w q n f K) (hb:nBut K w w'):nBytN w' q n f K:=by
 rcases h with h | ⟨b,off,h1,h2,h3⟩
 ·exact .inl h
 ·exact .inr ⟨b,off,h1,h2,h3.nbut hb h2⟩
theorem nBytN.byt {w:World} {q:Option Addr} {n K:Nat} {f:Nat→Int} (h:nBytN w q n f K):Byt w q n f:=by
 rcases h with h | ⟨b,off,h1,_,h3⟩
 ·exact .inl h
 ·exact .inr ⟨b,off,h1,h3⟩
def nPartsN (w:World) (p:Option Addr) (np:Nat) (g:Nat→Int) (T:Nat→Nat) (K:Nat):Prop:=∀ k,k<np→∃ D o q m c,p=some ⟨D,o,none⟩∧D≠K∧D<w.heap.size∧w.cell? ⟨D,o+k,none⟩=some (.slice q m c)∧m≤c∧c≤9223372036854775807∧T (k+1)=T k+m∧nBytN w q m (fun j=>g (T k+j)) K
theorem nPartsN.nbut {w w':World} {p:Option Addr} {np K:Nat} {g:Nat→Int} {T:Nat→Nat} (h:nPartsN w p np g T K) (hb:nBut K w w'):nPartsN w' p np g T K:=fun k hk=>by
 obtain⟨D,o,q,m,c,h1,h2,h3,h4,h5,h6,h7,h8⟩:=h k hk
 exact⟨D,o,q,m,c,h1,h2,Nat.lt_of_lt_of_le h3 hb.below.size,(World.cell?_of_block (w:=w) (a:=⟨D,o+k,none⟩) (hb.heap D h3 h2)).trans h4,h5,h6,h7,h8.nbut hb⟩
def DatK (w:World) (v:Value) (n:Nat) (g:Nat→Int) (base K:Nat) (p0:Option Addr):Prop :=
 (∃ p,v = .slice p n n∧(p=none→n=0)∧nBytN w p n g K∧p=p0)∨w.ownsRow base 5 1 v n (nums .u8 g n)
theorem DatK.later {w w':World} {v:Value} {n base K:Nat} {g:Nat→Int} {p0:Option Addr} (h:DatK w v n g base K p0) (hb:Below w.heap.size w w') (hK:K<w.heap.size):DatK w' v n g base K p0:=by
 rcases h with ⟨p,h1,h2,h3⟩ | h
 ·exact .inl ⟨p,h1,h2,h3.1.nbut (nBut.of hb hK),h3.2⟩
 ·exact .inr (row_later h hb)
theorem DatK.far {w:World} {v:Value} {n base K o:Nat} {g:Nat→Int} {p0:Option Addr} {vs:List Value} (h:DatK w v n g base K p0) (hK:K<base):DatK (w.setCells K o vs) v n g base K p0:=by
 rcases h with ⟨p,h1,h2,h3⟩ | h
 ·exact .inl ⟨p,h1,h2,h3.1.nbut nBut.store,h3.2⟩
 ·exact .inr (nrow_far h (fun he=>by have:=(h.lt K he).1;omega) o vs)
theorem DatK.form {w:World} {v:Value} {n base K:Nat} {g:Nat→Int} {p0:Option Addr} (h:DatK w v n g base K p0):∃ p c,v = .slice p n c∧n≤c∧c≤maxLen∨∃ p,v = .slice p n n:=by
 rcases h with ⟨p,h1,_,_⟩ | h
 ·exact⟨p,n,.inr ⟨p,h1⟩⟩
 ·rcases h.2 with ⟨rfl,rfl⟩ | ⟨g,cap,cur,rfl,_,_,hc,hm,_⟩
  ·exact⟨none,0,.inr ⟨none,rfl⟩⟩
  ·exact⟨_,cap,.inl ⟨rfl,hc,hm⟩⟩
theorem run_append_none {P:Program} {w:World} {t ty n c:Nat} {e:TypeId} {i:TypeInfo} (p:Option Addr) (hnc:n≤c) (ht:P.underlying t=some (.slice e)) (hi:P.info? e=some i) (q:Option Addr) (c':Nat) :
  (Builtin.append_ #[t,t] ty #[.slice p n c,.slice q 0 c']).run P w = .ok (.slice p n c) w:=by
 have hl:∀ (x:Addr),(loadCells x 0).run P w = .ok #[] w:=fun x=>by simpa using run_loadCells_list (P:=P) w x [] (by simp)
 cases p<;>cases q<;>simp[Builtin.append_,run_underlying ht,sizeOf,typeInfo,hi,Builtin.lenOf,Builtin.firstCells,hnc,storeCells,hl]
theorem run_append_dat {w:World} {v:Value} {n base K:Nat} {g:Nat→Int} {p0:Option Addr} (h:DatK w v n g base K p0) (q:Option Addr) (m c ty:Nat) (hq:nBytN w q m (fun j=>g (n+j)) K) (hnm:n+m≤65536) (hb:base≤w.heap.size) :
  ∃ v' w',(Builtin.append_ #[47,47] ty #[v,.slice q m c]).run Tryz.prog w = .ok v' w'∧DatK w' v' (n+m) g base K p0∧(∃ row,w.grownBy w' row∧∀ k,row=some k→base≤k):=by
 obtain⟨i0,hi,hz0,hz1,hz2⟩:=infoB_parts
 have ap:=nums_append .u8 g (fun j=>g (n+j)) n m (fun j _=>rfl)
 by_cases hm:m=0
 ·subst hm
  obtain⟨p,c1,hf⟩:=h.form
  refine⟨v,w,?_,h,none,⟨rfl,rfl,rfl,Nat.le_refl _,fun _ _ _=>rfl⟩,fun _ hk=>nomatch hk⟩
  rcases hf with ⟨rfl,h1,_⟩ | ⟨p',rfl⟩
  ·exact run_append_none p h1 Tryz.underlying47 hi q c
  ·exact run_append_none p' (Nat.le_refl _) Tryz.underlying47 hi q c
 ·obtain⟨b,off,rfl,_,hs⟩:=hq.resolve_left hm
  have nw:∀ j u,(nums .u8 (fun j=>g (n+j)) m)[j]?=some u→w.cell? ((⟨b,off,none⟩:Addr).add j)=some u:=fun j u hj=>by rw[Addr.add_mid];exact hs.cell j u hj
  rcases h with ⟨p,rfl,hp,hB,hpp⟩ | h
  ·cases p with
   | none =>
    obtain rfl:n=0:=hp rfl
    obtain⟨v',w',hrun,r1,r2,_⟩:=run_append_own (P:=Tryz.prog) w base 47 ty 5 i0 (.int .u8 0) 1 1 Tryz.underlying47 hi hz0 hz1 hz2 rfl (by decide) (.slice none 0 0) 0 [] (World.ownsRow_nil _ _ _ _) ⟨b,off,none⟩ m c _ (by rw[nums_length,Nat.mul_one]) nw (nums_one _ _ _) (by unfold maxLen;omega) (by omega) hb
    refine⟨v',w',hrun,.inr ?_,_,r2,fun k hk=>nomatch hk⟩
    rw[← ap]
    exact r1
   | some a =>
    have hB':∃ b' off',(a=⟨b',off',none⟩∨n=0)∧(n=0∨Has b' off' (nums .u8 g n) w):=by
     rcases hB with h0 | ⟨b',off',e,_,h3⟩
     ·exact⟨0,0,.inr h0,.inl h0⟩
     ·cases e;exact⟨b',off',.inl rfl,.inr h3⟩
    have olds:∀ j u,(nums .u8 g n)[j]?=some u→w.cell? (a.add j)=some u:=fun j u hj=>by
     have hj':j<n:=by have:=(List.getElem?_eq_some_iff.1 hj).1;rwa [nums_length] at this
     obtain⟨b',off',h1,h2⟩:=hB'
     rcases h1 with rfl | h1
     ·rcases h2 with h2 | h2
      ·omega
      ·rw[Addr.add_mid];exact h2.cell j u hj
     ·omega
    obtain⟨v',w',hrun,r1,r2⟩:=run_append_arg_grows (P:=Tryz.prog) w 47 ty 5 i0 (.int .u8 0) 1 1 Tryz.underlying47 hi hz0 hz1 hz2 rfl (by decide) a n n _ (by rw[nums_length,Nat.mul_one]) olds ⟨b,off,none⟩ m c _ (by rw[nums_length,Nat.mul_one]) nw (by omega) (by unfold maxLen;omega) (by omega)
    refine⟨v',w',hrun,.inr ?_,_,r2,fun k hk=>nomatch hk⟩
    rw[← ap]
    exact r1.mono hb
  ·obtain⟨v',w',hrun,r1,r2,_⟩:=run_append_own (P:=Tryz.prog) w base 47 ty 5 i0 (.int .u8 0) 1 1 Tryz.underlying47 hi hz0 hz1 hz2 rfl (by decide) v n _ h ⟨b,off,none⟩ m c _ (by rw[nums_length,Nat.mul_one]) nw (nums_one _ _ _) (by unfold maxLen;omega) (by omega) hb
   refine⟨v',w',hrun,.inr ?_,_,r2,fun k hk=>row_ge h k hk⟩
   rw[← ap]
   exact r1
theorem step_run_append {P:Program} {ops:Array Oper} {o:Oper} {a:Act} {w:World} {K:Act→World→Prop} {Q:Exit→Act→World→Prop} {E:Prop}
  (hg:o.guard=none) (s x:Operand) (t:TypeId) (hop:o.op=Op.call { callee:=Callee.builtin Builtin.append,args:=#[s,x],argTypes:=#[t,t] }) {v vx v':Value} {w':World} (hs:a.eval s=v) (hx:a.eval x=vx)
  (hrun:(Builtin.append_ #[t,t] o.type #[v,vx]).run P w = .ok v' w') (hK:K (a.put o.dst v') w'):if Region.wanted o (yielded ops a.tmps)=true then Oper.wp P o a w K Q else E:=by
 have hw:Region.wanted o (yielded ops a.tmps)=true:=by simp[Region.wanted,hg]
 rw[if_pos hw]
 unfold Oper.wp
 simp[execOp,hop,resolve,invoke,builtin,hs,hx,hrun,Result.andThen]
 exact hK
theorem Clip_any (p:Option Addr) (n c:Nat) (hn:n≤c) (w:World) :
  Calls Tryz.prog 154 #[.slice p n c] w fun e w'=>e = .returned (.slice p n n)∧Below w.heap.size w w':=by
 have n1:(n:Int)≤(c:Int):=by omega
 go_enter Tryz.func154,Tryz.ntmps154
 go_wp2_with (fail)
 go_ret
 exact⟨by first | rfl | simp[sliced_head],Below.refl _ _⟩
end Go.Proofs.YtbilamnnneddmaaGreatDoor
namespace Go.Proofs.YtbilamnnneddmaaGreatDoor
set_option linter.unusedVariables false
set_option maxRecDepth 2000
set_option linter.unusedSimpArgs false
open Go.RowKit
theorem DatK.slice {w:World} {v:Value} {n base K:Nat} {g:Nat→Int} {p0:Option Addr} (h:DatK w v n g base K p0):∃ p c,v = .slice p n c:=by
 rcases h with ⟨p,h1,_,_⟩ | h
 ·exact⟨p,n,h1⟩
 ·obtain⟨p,c,h1,_⟩:=row_form h
  exact⟨p,c,h1⟩
theorem nover_set (cs:List Value) (o:Nat) (a:Value) (h:o<cs.length):over cs o [a]=cs.set o a:=by
 rw[List.set_eq_take_append_cons_drop,if_pos h];simp[over]
theorem nover_over (cs:List Value) (o:Nat) (a b:Value) (h:o<cs.length):over (over cs o [a]) o [b]=over cs o [b]:=by
 rw[nover_set cs o a h,nover_set cs o b h,nover_set _ o b (by simpa using h),List.set_set]
theorem nover_at (cs:List Value) (o:Nat) (a:Value) (h:o<cs.length):(over cs o [a])[o]?=some a:=by
 unfold over
 simp[List.getElem?_append,Nat.min_eq_left (Nat.le_of_lt h)]
theorem nover_len (cs:List Value) (o:Nat) (a:Value) (h:o<cs.length):(over cs o [a]).length=cs.length:=over_length cs o [a] (by simp;omega)
theorem Own.nover1 {K:Nat} {cs:List Value} {W:World} {o:Nat} {a b:Value} (h:Own K (over cs o [a]) W) (ho:o<cs.length):Own K (over cs o [b]) (W.setCells K o [b]):=by
 have:=Own.part (o:=o) (vs:=[b]) h (by rw[nover_len cs o a ho];simp;omega)
 rwa [nover_over cs o a b ho] at this
theorem nBut.grown {K:Nat} {E a w':World} {row:Option Nat} (h:nBut K E a) (hg:a.grownBy w' row) (hr:∀ k,row=some k→E.heap.size≤k) (hK:K<E.heap.size):nBut K E w' :=
 ⟨h.below.grown hg (Nat.le_trans (Nat.le_of_lt hK) h.below.size) (fun k hk=>Nat.le_trans (Nat.le_of_lt hK) (hr k hk)),fun b hb hn=>by
  rw[hg.block b (Nat.lt_of_lt_of_le hb h.below.size) (fun e=>by have:=hr b e.symm;omega)]
  exact h.heap b hb hn⟩
attribute [local go_sem ↓ high] sliced_head
set_option maxHeartbeats 4000000 in
theorem keep_any (K off:Nat) (cs:List Value) (p0:Option Addr) (n c0:Nat) (g:Nat→Int) (P_:Option Addr) (np cp:Nat) (T:Nat→Nat) (hoff:cs[off]?=some (.slice p0 n c0)) (hnc:n≤c0) (hp0:p0=none→n=0) (hT0:T 0=n) (hT:∀ k,k≤np→T k≤65536) (hnp:np≤cp) (hcp:cp≤9223372036854775807) (w:World) (hK:Own K cs w) (hb:nBytN w p0 n g K) (hP:nPartsN w P_ np g T K) :
  Calls Tryz.prog 128 #[.pointer (some ⟨K,off,none⟩),.slice P_ np cp] w fun e w'=>∃ v',e = .returned (.tuple #[])∧DatK w' v' (T np) g w.heap.size K p0∧Own K (over cs off [v']) w'∧nBut K w w':=by
 have hof:off<cs.length:=(List.getElem?_eq_some_iff.1 hoff).1
 have x0:=hK.at off _ hoff
 have HT:=Lib.hid hT;have HT0:=Lib.hid hT0;have HP0:=Lib.hid hp0;have HNP:=Lib.hid hnp;have HCP:=Lib.hid hcp
 have OF:=Lib.hid hof
 have HK:=Lib.hid hK;have HB:=Lib.hid hb;have HP:=Lib.hid hP
 have CL:=Lib.hid (fun w=>Clip_any p0 n c0 hnc w)
 clear hoff hnc hp0 hT0 hT hnp hcp hK hb hP hof
 go_enter Tryz.func128,Tryz.ntmps128
 go_wp2_with (fail)
 go_at_call 154
 refine (CL.out _).mono ?_
 rintro e w1 ⟨rfl,hb⟩
 have Kl:=HK.out.lt
 have k1:=HK.out.later hb
 have xf:=k1.ok off OF.out
 have Kl1:=k1.lt
 obtain⟨v0,ev0⟩:∃ v,Value.slice p0 n n=v:=⟨_,rfl⟩
 have x1:∃ u,w1.cell? ⟨K,off,none⟩=some u:=⟨_,k1.at off _ (List.getElem?_eq_getElem OF.out)⟩
 obtain⟨u0,x1⟩:=x1
 have bu:=nBut.of hb Kl
 have HKn:=Lib.hid (show Own K (over cs off [Value.slice p0 n n]) (w1.setCells K off [Value.slice p0 n n]) from Own.part k1 (by simp;exact OF.out))
 have BU:=Lib.hid (bu.trans (nBut.store (K:=K) (o:=off) (a:=w1) (vs:=[Value.slice p0 n n])))
 have DK:Hid (DatK (w1.setCells K off [Value.slice p0 n n]) (Value.slice p0 n n) (T 0) g w.heap.size K p0):=Lib.hid (by
  rw[HT0.out]
  exact .inl ⟨p0,rfl,HP0.out,HB.out.nbut BU.out,rfl⟩)
 clear HK HB k1 bu hb ev0
 go_wp2_with (fail)
 go_loopw [17] (fun iv wr=>∃ (k:Nat) (v:Value),k≤np∧iv = .int .i64 k∧Hid (DatK wr v (T k) g w.heap.size K p0)∧Hid (Own K (over cs off [v]) wr)∧Hid (nBut K w wr) ) (fun iv _=>(np - (intOf iv).toNat))
 case atStart=>exact⟨0,_,Nat.zero_le _,rfl,DK,HKn,BU⟩
 case round =>
  clear DK HKn BU x1 xf x0 Kl1
  obtain⟨k,v,hk,rfl,DK,HK,BU⟩:=hrel
  by_cases hlt:k<np
  ·obtain⟨D,o,q,m,c,rfl,hDK,hD,hcell,hmc,hcx,hTk,hby⟩:=(HP.out.nbut BU.out) k hlt
   have BYq:=Lib.hid hby
   have NDK:=Lib.hid hDK
   have hki:(k:Int)<(np:Int):=by omega
   have k0:(0:Int)≤(k:Int):=by omega
   have k63:IntKind.i64.wrap ((k:Int)+1)=(k:Int)+1:=IntWalk.i64_in _ (by have:=HNP.out;have:=HCP.out;omega)
   have hT1:=HT.out k (by omega)
   have hT2:=HT.out (k+1) (by omega)
   have HTk:=Lib.hid hTk
   obtain⟨t,et⟩:∃ t,T k=t:=⟨_,rfl⟩
   rw[et] at hTk hT1 DK HTk BYq
   have TM:=Lib.hid (show t+m≤65536 by omega)
   obtain⟨r,er⟩:∃ r:Nat,r=65536 - t:=⟨_,rfl⟩
   have e1:(65536:Int) - (t:Int)=(r:Int):=by omega
   have e2:IntKind.i64.wrap (r:Int)=(r:Int):=IntWalk.i64_in _ (by omega)
   have e3:(if (r:Int)<(m:Int) then (r:Int) else (m:Int))=(m:Int):=by rw[if_neg (by omega)]
   have e3n:(if r<m then (r:Int) else (m:Int))=(m:Int):=by rw[if_neg (by omega)]
   have m0:(0:Int)≤(m:Int):=by omega
   have m1:(m:Int)≤(c:Int):=by omega
   obtain⟨p1,c1,ev⟩:=DK.out.slice
   subst ev
   have vc:=HK.out.at off _ (nover_at cs off _ OF.out)
   have vf:=HK.out.ok off (by rw[nover_len cs off _ OF.out];exact OF.out)
   have Kl2:=HK.out.lt
   have DW:D<wr.heap.size:=hD
   have HLT:=Lib.hid hlt
   clear hk hlt hby hTk hT1 hT2 et er hmc hcx hDK hD
   obtain⟨E,eE⟩:∃ E,E=w:=⟨_,rfl⟩
   subst eE
   go_wp2_with (fail)
   refine wp_region_fun 15 (by kernel_rfl) (by kernel_rfl) rfl (fun s b=>⟨#[.pointer (some ⟨K,off,none⟩),.slice (some ⟨D,o,none⟩) np cp,undef,undef,undef,.slice q m c,.int .i64 r,.pointer (some ⟨K,off,none⟩),.pointer (some ⟨K,off,none⟩),.pointer (some ⟨K,off,none⟩),.pointer (some ⟨K,off,none⟩),.slice p0 n c0,.slice p0 n n,.pointer (some ⟨K,off,none⟩),.pointer (some ⟨K,off,none⟩),.slice (some ⟨D,o,none⟩) np cp,.int .i64 np,.int .i64 k,.bool true,.pointer (some ⟨D,(o+k),none⟩),.slice q m c,.pointer (some ⟨K,off,none⟩),.pointer (some ⟨K,off,none⟩),.pointer (some ⟨K,off,none⟩),.slice p1 t c1,.int .i64 t,.int .i64 r,s 27,s 28,s 29,s 30,s 31,s 32,s 33,s 34,s 35,s 36,s 37,s 38,s 39,s 40,u41],[]⟩) (fun d s b w=>(True)∧(d 0=true→s 27 = .pointer (some ⟨K,off,none⟩))∧(d 1=true→s 28 = .pointer (some ⟨K,off,none⟩))∧(d 2=true→s 29 = .pointer (some ⟨K,off,none⟩))∧(d 3=true→s 30 = .pointer (some ⟨K,off,none⟩))∧(d 4=true→s 31 = .slice p1 t c1)∧(d 5=true→s 32 = .slice q m c)∧(d 6=true→s 33 = .slice q m c)∧(d 7=true→s 34 = .int .i64 m)∧(d 8=true→s 35 = .int .i64 r)∧(d 9=true→s 36 = .int .i64 m)∧(d 10=true→s 37 = .slice q m c)∧(d 11=false→w=wr.drew)∧(d 11=true→d 14=false→DatK w (s 38) (t+m) g E.heap.size K p0∧Own K (over cs off [.slice p1 t c1]) w∧nBut K E w)∧(d 12=true→s 39 = .pointer (some ⟨K,off,none⟩))∧(d 13=true→s 40 = .pointer (some ⟨K,off,none⟩))∧(d 14=true→∃ w2,(DatK w2 (s 38) (t+m) g E.heap.size K p0∧Own K (over cs off [.slice p1 t c1]) w2∧nBut K E w2)∧w=w2.setCells K off [s 38])∧(d 11=true→d 4=true)∧(d 14=true→d 11=true)) rfl ?h0z1 (?stz1:StepsF _ _ _ _ 15 _ _ [0,1,2,3,4,5,6,7,8,9,10,11,12,13,14]) ?dnz1
   case h0z1=>exact⟨trivial,(fun h=>nomatch h),(fun h=>nomatch h),(fun h=>nomatch h),(fun h=>nomatch h),(fun h=>nomatch h),(fun h=>nomatch h),(fun h=>nomatch h),(fun h=>nomatch h),(fun h=>nomatch h),(fun h=>nomatch h),(fun h=>nomatch h),(fun _=>rfl),by repeat (first | exact nf_ | refine⟨nf_,?_⟩)⟩
   case stz1 =>
    refine sc_ rfl [] (fun d s b w hF hd hw K_ hK=>?_) ?_
    ·have hB:True:=trivial
     dsimp only
     go_simp
     exact hK.out (ups s 27 (.pointer (some ⟨K,off,none⟩))) b _ ⟨hB,(fun _=>rfl),hF.out.2.2⟩
    refine sc_ rfl [] (fun d s b w hF hd hw K_ hK=>?_) ?_
    ·have hB:True:=trivial
     dsimp only
     go_simp
     exact hK.out (ups s 28 (.pointer (some ⟨K,off,none⟩))) b _ ⟨hB,(p1_ hF.out),(fun _=>rfl),hF.out.2.2.2⟩
    refine sc_ rfl [1] (fun d s b w hF hd hw K_ hK=>?_) ?_
    ·have hB:True:=trivial
     have e1:=p2_ hF.out (hw 1 (by decide))
     dsimp only
     go_simp
     exact hK.out (ups (ups s 28 (.pointer (some ⟨K,off,none⟩))) 29 (.pointer (some ⟨K,off,none⟩))) b _ ⟨hB,(p1_ hF.out),(fun _=>rfl),(fun _=>rfl),hF.out.2.2.2.2⟩
    refine sc_ rfl [2] (fun d s b w hF hd hw K_ hK=>?_) ?_
    ·have hB:True:=trivial
     have e2:=p3_ hF.out (hw 2 (by decide))
     dsimp only
     go_simp
     exact hK.out (ups (ups s 29 (.pointer (some ⟨K,off,none⟩))) 30 (.pointer (some ⟨K,off,none⟩))) b _ ⟨hB,k2_ hF.out.2 fun t=>⟨(fun _=>rfl),(fun _=>rfl),t.2.2⟩⟩
    refine sc_ rfl [3] (fun d s b w hF hd hw K_ hK=>?_) ?_
    ·have hB:True:=trivial
     have e3:=p4_ hF.out (hw 3 (by decide))
     dsimp only
     have cX:w.cell? ⟨K,off,none⟩=some (.slice p1 t c1):=by rw[((p12_ hF.out) (by cases e:d 11 with | false=>rfl | true=>exact absurd ((p17_ hF.out) e) (by simp[hd])))];exact HK.out.drew.at off _ (nover_at cs off _ OF.out)
     go_simp
     exact hK.out (ups (ups s 30 (.pointer (some ⟨K,off,none⟩))) 31 (.slice p1 t c1)) b _ ⟨hB,k3_ hF.out.2 fun t=>⟨(fun _=>rfl),(fun _=>rfl),k11_ t.2.2 fun t=>⟨(fun _=>rfl),t.2⟩⟩⟩
    refine sc_ rfl [] (fun d s b w hF hd hw K_ hK=>?_) ?_
    ·have hB:True:=trivial
     dsimp only
     go_simp
     exact hK.out (ups s 32 (.slice q m c)) b _ ⟨hB,k5_ hF.out.2 fun t=>⟨(fun _=>rfl),t.2⟩⟩
    refine sc_ rfl [] (fun d s b w hF hd hw K_ hK=>?_) ?_
    ·have hB:True:=trivial
     dsimp only
     go_simp
     exact hK.out (ups s 33 (.slice q m c)) b _ ⟨hB,k6_ hF.out.2 fun t=>⟨(fun _=>rfl),t.2⟩⟩
    refine sc_ rfl [6] (fun d s b w hF hd hw K_ hK=>?_) ?_
    ·have hB:True:=trivial
     have e6:=p7_ hF.out (hw 6 (by decide))
     dsimp only
     go_simp
     exact hK.out (ups (ups s 33 (.slice q m c)) 34 (.int .i64 m)) b _ ⟨hB,k6_ hF.out.2 fun t=>⟨(fun _=>rfl),(fun _=>rfl),t.2.2⟩⟩
    refine sc_ rfl [] (fun d s b w hF hd hw K_ hK=>?_) ?_
    ·have hB:True:=trivial
     dsimp only
     go_simp
     exact hK.out (ups s 35 (.int .i64 r)) b _ ⟨hB,k8_ hF.out.2 fun t=>⟨(fun _=>rfl),t.2⟩⟩
    refine sc_ rfl [7,8] (fun d s b w hF hd hw K_ hK=>?_) ?_
    ·have hB:True:=trivial
     have e7:=p8_ hF.out (hw 7 (by decide))
     have e8:=p9_ hF.out (hw 8 (by decide))
     dsimp only
     go_simp
     exact hK.out (ups (ups (ups s 34 (.int .i64 m)) 35 (.int .i64 r)) 36 (.int .i64 m)) b _ ⟨hB,k7_ hF.out.2 fun t=>⟨(fun _=>rfl),(fun _=>rfl),(fun _=>rfl),t.2.2.2⟩⟩
    refine sc_ rfl [5,9] (fun d s b w hF hd hw K_ hK=>?_) ?_
    ·have hB:True:=trivial
     have e5:=p6_ hF.out (hw 5 (by decide))
     have e9:=p10_ hF.out (hw 9 (by decide))
     dsimp only
     go_simp
     exact hK.out (ups (ups (ups s 32 (.slice q m c)) 36 (.int .i64 m)) 37 (.slice q m c)) b _ ⟨hB,k5_ hF.out.2 fun t=>⟨(fun _=>rfl),k3_ t.2 fun t=>⟨(fun _=>rfl),(fun _=>rfl),t.2.2⟩⟩⟩
    refine sc_ rfl [4,10] (fun d s b w hF hd hw K_ hK=>?_) ?_
    ·have hB:True:=trivial
     have e4:=p5_ hF.out (hw 4 (by decide))
     have e10:=p11_ hF.out (hw 10 (by decide))
     have hq:w=wr.drew:=(p12_ hF.out) hd
     subst hq
     obtain⟨v',w6,hrun,hdat,row,hgr,hrow⟩:=run_append_dat (DK.out.later (Below.refl _ _).drew Kl2) q m c _ (BYq.out.nbut (nBut.drew Kl2)) TM.out (Nat.le_trans BU.out.below.size (Below.refl wr.heap.size wr).drew.size)
     have hrel:DatK w6 v' (t+m) g E.heap.size K p0∧Own K (over cs off [.slice p1 t c1]) w6∧nBut K E w6:=⟨hdat,HK.out.drew.grown hgr (fun e=>by have:=hrow K e;have:=Kl;omega),(BU.out.trans (nBut.drew Kl2)).grown hgr hrow Kl⟩
     refine step_run_append rfl (.tmp 31) (.tmp 37) 47 rfl ?a1 ?a2 hrun ?_
     case a1=>exact e4
     case a2=>exact e10
     exact hK.out (ups s 38 (v')) b _ ⟨hB,k11_ hF.out.2 fun t=>⟨(fun h=>nomatch h),(fun _ _=>hrel),k2_ t.2.2 fun t=>⟨(fun h=>absurd ((q18_ hF.out) h) (by simp[hd])),(fun _=>hw 4 (by decide)),(fun _=>rfl)⟩⟩⟩
    refine sc_ rfl [0,0,1,2,3,4,5,6,7,8,9,10,11] (fun d s b w hF hd hw K_ hK=>?_) ?_
    ·have hB:True:=trivial
     have e0:=p1_ hF.out (hw 0 (by decide))
     have e1:=p2_ hF.out (hw 1 (by decide))
     have e2:=p3_ hF.out (hw 2 (by decide))
     have e3:=p4_ hF.out (hw 3 (by decide))
     have e4:=p5_ hF.out (hw 4 (by decide))
     have e5:=p6_ hF.out (hw 5 (by decide))
     have e6:=p7_ hF.out (hw 6 (by decide))
     have e7:=p8_ hF.out (hw 7 (by decide))
     have e8:=p9_ hF.out (hw 8 (by decide))
     have e9:=p10_ hF.out (hw 9 (by decide))
     have e10:=p11_ hF.out (hw 10 (by decide))
     dsimp only
     go_simp
     exact hK.out (ups (ups (ups (ups (ups (ups (ups (ups (ups (ups (ups (ups s 27 (.pointer (some ⟨K,off,none⟩))) 28 (.pointer (some ⟨K,off,none⟩))) 29 (.pointer (some ⟨K,off,none⟩))) 30 (.pointer (some ⟨K,off,none⟩))) 31 (.slice p1 t c1)) 32 (.slice q m c)) 33 (.slice q m c)) 34 (.int .i64 m)) 35 (.int .i64 r)) 36 (.int .i64 m)) 37 (.slice q m c)) 39 (.pointer (some ⟨K,off,none⟩))) b _ ⟨hB,(fun _=>rfl),(fun _=>rfl),(fun _=>rfl),(fun _=>rfl),(fun _=>rfl),(fun _=>rfl),(fun _=>rfl),(fun _=>rfl),(fun _=>rfl),(fun _=>rfl),(fun _=>rfl),k2_ hF.out.2.2.2.2.2.2.2.2.2.2.2.2 fun t=>⟨(fun _=>rfl),t.2⟩⟩
    refine sc_ rfl [12,0,1,2,3,4,5,6,7,8,9,10,11] (fun d s b w hF hd hw K_ hK=>?_) ?_
    ·have hB:True:=trivial
     have e0:=p1_ hF.out (hw 0 (by decide))
     have e1:=p2_ hF.out (hw 1 (by decide))
     have e2:=p3_ hF.out (hw 2 (by decide))
     have e3:=p4_ hF.out (hw 3 (by decide))
     have e4:=p5_ hF.out (hw 4 (by decide))
     have e5:=p6_ hF.out (hw 5 (by decide))
     have e6:=p7_ hF.out (hw 6 (by decide))
     have e7:=p8_ hF.out (hw 7 (by decide))
     have e8:=p9_ hF.out (hw 8 (by decide))
     have e9:=p10_ hF.out (hw 9 (by decide))
     have e10:=p11_ hF.out (hw 10 (by decide))
     have e12:=p14_ hF.out (hw 12 (by decide))
     dsimp only
     go_simp
     exact hK.out (ups (ups (ups (ups (ups (ups (ups (ups (ups (ups (ups (ups (ups s 27 (.pointer (some ⟨K,off,none⟩))) 28 (.pointer (some ⟨K,off,none⟩))) 29 (.pointer (some ⟨K,off,none⟩))) 30 (.pointer (some ⟨K,off,none⟩))) 31 (.slice p1 t c1)) 32 (.slice q m c)) 33 (.slice q m c)) 34 (.int .i64 m)) 35 (.int .i64 r)) 36 (.int .i64 m)) 37 (.slice q m c)) 39 (.pointer (some ⟨K,off,none⟩))) 40 (.pointer (some ⟨K,off,none⟩))) b _ ⟨hB,(fun _=>rfl),(fun _=>rfl),(fun _=>rfl),(fun _=>rfl),(fun _=>rfl),(fun _=>rfl),(fun _=>rfl),(fun _=>rfl),(fun _=>rfl),(fun _=>rfl),(fun _=>rfl),k2_ hF.out.2.2.2.2.2.2.2.2.2.2.2.2 fun t=>⟨(fun _=>rfl),(fun _=>rfl),t.2.2⟩⟩
    refine sc_ rfl [13,11,11,0,1,2,3,4,5,6,7,8,9,10,11] (fun d s b w hF hd hw K_ hK=>?_) ?_
    ·have hB:True:=trivial
     have e0:=p1_ hF.out (hw 0 (by decide))
     have e1:=p2_ hF.out (hw 1 (by decide))
     have e2:=p3_ hF.out (hw 2 (by decide))
     have e3:=p4_ hF.out (hw 3 (by decide))
     have e4:=p5_ hF.out (hw 4 (by decide))
     have e5:=p6_ hF.out (hw 5 (by decide))
     have e6:=p7_ hF.out (hw 6 (by decide))
     have e7:=p8_ hF.out (hw 7 (by decide))
     have e8:=p9_ hF.out (hw 8 (by decide))
     have e9:=p10_ hF.out (hw 9 (by decide))
     have e10:=p11_ hF.out (hw 10 (by decide))
     have e13:=p15_ hF.out (hw 13 (by decide))
     dsimp only
     have hr:=(p13_ hF.out) (hw 11 (by decide)) hd
     obtain⟨p2,c2,e2⟩:=hr.1.slice
     rw[e2] at hr
     have fr:=hr.2.1.ok off (by rw[nover_len cs off _ OF.out];exact OF.out)
     have ce:=hr.2.1.at off _ (nover_at cs off _ OF.out)
     have Kl3:=hr.2.1.lt
     go_simp
     exact hK.out (ups (ups (ups (ups (ups (ups (ups (ups (ups (ups (ups (ups (ups s 27 (.pointer (some ⟨K,off,none⟩))) 28 (.pointer (some ⟨K,off,none⟩))) 29 (.pointer (some ⟨K,off,none⟩))) 30 (.pointer (some ⟨K,off,none⟩))) 31 (.slice p1 t c1)) 32 (.slice q m c)) 33 (.slice q m c)) 34 (.int .i64 m)) 35 (.int .i64 r)) 36 (.int .i64 m)) 37 (.slice q m c)) 40 (.pointer (some ⟨K,off,none⟩))) 38 (.slice p2 (t+m) c2)) b _ ⟨hB,(fun _=>rfl),(fun _=>rfl),(fun _=>rfl),(fun _=>rfl),(fun _=>rfl),(fun _=>rfl),(fun _=>rfl),(fun _=>rfl),(fun _=>rfl),(fun _=>rfl),(fun _=>rfl),(fun h=>nomatch ((hw 11 (by decide)).symm.trans h)),(fun _ h=>nomatch h),(p14_ hF.out),(fun _=>rfl),(fun _=>⟨w,hr,rfl⟩),(p17_ hF.out),(fun _=>hw 11 (by decide))⟩
    exact StepsF.nil
   intro d s b z1 hF hall
   replace hF:=Lib.hid hF
   have hB:True:=trivial
   try dsimp only
   have e0:s 27 = .pointer (some ⟨K,off,none⟩):=(p1_ hF.out) (hall 0 (by decide))
   have e1:s 28 = .pointer (some ⟨K,off,none⟩):=(p2_ hF.out) (hall 1 (by decide))
   have e2:s 29 = .pointer (some ⟨K,off,none⟩):=(p3_ hF.out) (hall 2 (by decide))
   have e3:s 30 = .pointer (some ⟨K,off,none⟩):=(p4_ hF.out) (hall 3 (by decide))
   have e4:s 31 = .slice p1 t c1:=(p5_ hF.out) (hall 4 (by decide))
   have e5:s 32 = .slice q m c:=(p6_ hF.out) (hall 5 (by decide))
   have e6:s 33 = .slice q m c:=(p7_ hF.out) (hall 6 (by decide))
   have e7:s 34 = .int .i64 m:=(p8_ hF.out) (hall 7 (by decide))
   have e8:s 35 = .int .i64 r:=(p9_ hF.out) (hall 8 (by decide))
   have e9:s 36 = .int .i64 m:=(p10_ hF.out) (hall 9 (by decide))
   have e10:s 37 = .slice q m c:=(p11_ hF.out) (hall 10 (by decide))
   have e12:s 39 = .pointer (some ⟨K,off,none⟩):=(p14_ hF.out) (hall 12 (by decide))
   have e13:s 40 = .pointer (some ⟨K,off,none⟩):=(p15_ hF.out) (hall 13 (by decide))
   have f14:=(p16_ hF.out) (hall 14 (by decide))
   rw[e0,e1,e2,e3,e4,e5,e6,e7,e8,e9,e10,e12,e13]
   clear hall hF e0 e1 e2 e3 e4 e5 e6 e7 e8 e9 e10 e12 e13
   obtain⟨u1,hz⟩:∃ x,x=s 38:=⟨_,rfl⟩
   rw[← hz] at f14 ⊢
   clear hz
   clear d s b
   obtain⟨w2,hr,rfl⟩:=f14
   have O1:=Lib.hid (hr.1.far (o:=off) (vs:=[u1]) Kl)
   rw[← HTk.out] at O1
   have O2:=Lib.hid (Own.nover1 (b:=u1) hr.2.1 OF.out)
   have O3:=Lib.hid (hr.2.2.trans (nBut.store (K:=K) (o:=off) (a:=w2) (vs:=[u1])))
   clear DK HK BU hr hB BYq vc vf
   go_wp2_with (fail)
   go_roundw
   case rel=>(first | exact⟨k+1,_,HLT.out,by go_num,O1,O2,O3⟩ | ((repeat apply Exists.intro);exact⟨⟨k+1,_,HLT.out,by go_num,O1,O2,O3⟩,rfl⟩))
   case measure=>(have:=HLT.out;simp[intOf];omega)
  ·have hkm:k=np:=by omega
   subst hkm
   clear hk hlt
   go_wp2_with (fail)
   refine bodyPost_end (results_none rfl _ _ _) rfl ?_
   exact⟨_,rfl,DK.out,HK.out,BU.out⟩
end Go.Proofs.YtbilamnnneddmaaGreatDoor
namespace Go.Proofs.YtbilamnnneddmaaGreatDoor
set_option linter.unusedVariables false
set_option maxRecDepth 2000
set_option linter.unusedSimpArgs false
open Go.RowKit
theorem Parts.naway {w w':World} {p:Option Addr} {np K:Nat} {g:Nat→Int} {T:Nat→Nat} (h:Parts w p np g T) (hb:Below w.heap.size w w') (hK:w.heap.size≤K):nPartsN w' p np g T K:=fun k hk=>by
 obtain⟨D,o,q,m,c,h1,h2,h3,h4,h5,h6,h7⟩:=h k hk
 refine⟨D,o,q,m,c,h1,by omega,Nat.lt_of_lt_of_le h2 hb.size,(hb.cell (p:=⟨D,o+k,none⟩) h2).trans h3,h4,h5,h6,?_⟩
 rcases h7 with h0 | ⟨b,off,e1,e2⟩
 ·exact .inl h0
 ·exact .inr ⟨b,off,e1,by have:=e2.lt;omega,e2.later hb⟩
theorem DatK.byt {w:World} {v:Value} {n base K:Nat} {g:Nat→Int} {p0:Option Addr} (h:DatK w v n g base K p0) (hn:n≤65536):∃ p c,v = .slice p n c∧n≤c∧c≤9223372036854775807∧Byt w p n g:=by
 rcases h with ⟨p,h1,_,h3⟩ | h
 ·exact⟨p,n,h1,Nat.le_refl _,by omega,h3.1.byt⟩
 ·rcases h.2 with ⟨rfl,rfl⟩ | ⟨G,cap,cur,rfl,hG,hh,hc,hm,_⟩
  ·exact⟨none,0,rfl,Nat.le_refl _,by omega,.inl rfl⟩
  ·exact⟨_,cap,rfl,hc,hm,.inr ⟨G,0,rfl,(nrow_has' h).1⟩⟩
attribute [local go_sem] nums_length
set_option maxHeartbeats 4000000 in
theorem Tag_any (kf g:Nat→Int) (P_:Option Addr) (np cp:Nat) (T:Nat→Nat) (hk:∀ i,i<32→inB (kf i)) (hg:∀ i,i<T np→inB (g i)) (hT0:T 0=0) (hT:∀ k,k≤np→T k≤65536) (hnp:np≤cp) (hcp:cp≤9223372036854775807) (w:World) (hP:Parts w P_ np g T) :
  Calls Tryz.prog 90 #[(.agg (nums .u8 kf 32).toArray),.slice P_ np cp] w fun e w'=>e = .returned (.agg (nums .u8 (byt (tagN kf g (T np))) 16).toArray)∧Below w.heap.size w w':=by
 have KB:=Lib.hid hk;have GB:=Lib.hid hg;have HT0:=Lib.hid hT0;have HT:=Lib.hid hT;have HNP:=Lib.hid hnp;have HCP:=Lib.hid hcp;have HP:=Lib.hid hP
 clear hk hg hT0 hT hnp hcp hP
 go_enter Tryz.func90,Tryz.ntmps90
 go_upto_region 2 with fail
 obtain⟨W0,hW⟩:∃ W0,W0=(((w.alloc (.cells (nums .u8 kf 32).toArray 22)).alloc (.cells #[.int .u8 0,.int .u8 0,.int .u8 0,.int .u8 0,.int .u8 0,.int .u8 0,.int .u8 0,.int .u8 0,.int .u8 0,.int .u8 0,.int .u8 0,.int .u8 0,.int .u8 0,.int .u8 0,.int .u8 0,.int .u8 0] 101)).alloc (.cells #[.slice none 0 0] 178)):=⟨_,rfl⟩
 have hB0:Below w.heap.size w W0:=hW ▸ (Below.al (Below.al (Below.al (Below.refl _ _))))
 have HY:Hid (Own w.heap.size (nums .u8 kf 32) W0):=Lib.hid (hW ▸ (show Own w.heap.size (nums .u8 kf 32) (w.alloc (.cells (nums .u8 kf 32).toArray 22)) from Own.newAt (by simp)).alloc.alloc)
 have HR:Hid (Own (w.heap.size+1) (nums .u8 (fun _=>0) 16) W0):=Lib.hid (hW ▸ (show Own (w.heap.size+1) (nums .u8 (fun _=>0) 16) ((w.alloc (.cells (nums .u8 kf 32).toArray 22)).alloc (.cells #[.int .u8 0,.int .u8 0,.int .u8 0,.int .u8 0,.int .u8 0,.int .u8 0,.int .u8 0,.int .u8 0,.int .u8 0,.int .u8 0,.int .u8 0,.int .u8 0,.int .u8 0,.int .u8 0,.int .u8 0,.int .u8 0] 101)) from Own.newAt (by simp)).alloc)
 have HK:Hid (Own ((w.heap.size+1)+1) ([.slice none 0 0]) W0):=Lib.hid (hW ▸ (show Own ((w.heap.size+1)+1) ([.slice none 0 0]) (((w.alloc (.cells (nums .u8 kf 32).toArray 22)).alloc (.cells #[.int .u8 0,.int .u8 0,.int .u8 0,.int .u8 0,.int .u8 0,.int .u8 0,.int .u8 0,.int .u8 0,.int .u8 0,.int .u8 0,.int .u8 0,.int .u8 0,.int .u8 0,.int .u8 0,.int .u8 0,.int .u8 0] 101)).alloc (.cells #[.slice none 0 0] 178)) from Own.newAt (by simp)))
 rw[← hW]
 clear hW
 obtain⟨K,eK⟩:∃ X,X=((w.heap.size+1)+1):=⟨_,rfl⟩
 rw[← eK] at HK ⊢
 have Kw:w.heap.size≤K:=by omega
 obtain⟨R,eR⟩:∃ X,X=(w.heap.size+1):=⟨_,rfl⟩
 rw[← eR] at HR ⊢
 have Rw:w.heap.size≤R:=by omega
 obtain⟨Y,eY⟩:∃ X,X=w.heap.size:=⟨_,rfl⟩
 rw[← eY] at HY ⊢
 have Yw:w.heap.size≤Y:=by omega
 have nYR:Y≠R:=by omega
 have nRY:R≠Y:=by omega
 have nYK:Y≠K:=by omega
 have nKY:K≠Y:=by omega
 have nRK:R≠K:=by omega
 have nKR:K≠R:=by omega
 clear eY eR eK
 have PN:=Lib.hid (HP.out.naway hB0 Kw)
 go_wp2_with (fail)
 go_at_call 128
 refine (keep_any K 0 [.slice none 0 0] none 0 0 g P_ np cp T rfl (Nat.le_refl _) (fun _=>rfl) HT0.out HT.out HNP.out HCP.out _ HK.out (.inl rfl) PN.out).mono ?_
 rintro e w1 ⟨v1,rfl,hdat,hKs,hbut⟩
 obtain⟨p1,c1,rfl,n1,c2,hby⟩:=hdat.byt (HT.out np (Nat.le_refl _))
 have HY1:=Lib.hid (HY.out.nbut hbut nYK)
 have HR1:=Lib.hid (HR.out.nbut hbut nRK)
 have HK1:=Lib.hid (show Has K 0 [.slice p1 (T np) c1] w1 from hKs.has)
 have hB1:Below w.heap.size w w1:=hB0.trans (hbut.below.mono Kw)
 have BY:=Lib.hid hby
 have N1:=Lib.hid n1;have C2:=Lib.hid c2;have N6:=Lib.hid (HT.out np (Nat.le_refl _))
 clear HY HR HK PN hB0 hdat hKs hbut hby n1 c2
 have HY:=HY1;have HR:=HR1
 clear HY1 HR1
 have hB0:=hB1
 clear hB1
 obtain⟨n,en⟩:∃ n,T np=n:=⟨_,rfl⟩
 rw[en] at HK1 BY N1 N6 GB
 have EN:=Lib.hid en
 clear en
 go_upto_region 3 with fail
 refine wp_region_lit ?_
 refine wpList_load_mid rfl 22 _ rfl Y 0 rfl (nums .u8 kf 32) _ HY.out.cell Tryz.underlying22 rfl (by kernel_rfl) ?_
 go_wp2_with (fail)
 go_at_call 129
 refine (tag_any kf g K 0 p1 n c1 KB.out GB.out N6.out N1.out C2.out _ HK1.out BY.out).mono ?_
 rintro e w2 ⟨rfl,hb⟩
 have HRk:=Lib.hid (HR.out.later hb)
 clear HR
 have HR:=HRk
 clear HRk
 obtain⟨T_,eT⟩:∃ x,tagN kf g n=x:=⟨_,rfl⟩
 rw[eT]
 have ET:=Lib.hid (show tagN kf g (T np)=T_ by rw[EN.out];exact eT)
 clear eT
 have hB1:=Below.go hB0 hb
 have hst:=store_nums (P:=Tryz.prog) (n:=16) .u8 (byt T_) HR.out rfl
 have HR1:=Lib.hid (Own.store (vs:=nums .u8 (byt T_) 16) HR.out rfl)
 have hB2:=Below.setCells hB1 Rw (nums .u8 (byt T_) 16) 0
 go_wp2_with (fail)
 have hL:=run_loadVar_mid (P:=Tryz.prog) _ R 0 101 (nums .u8 (byt T_) 16) _ HR1.out.cell Tryz.underlying101 rfl (by kernel_rfl)
 exact bodyPost_ret (v := .agg (nums .u8 (byt T_) 16).toArray) (res_cell Tryz.results90 rfl hL) rfl ⟨by rw[ET.out],hB2⟩
end Go.Proofs.YtbilamnnneddmaaGreatDoor
