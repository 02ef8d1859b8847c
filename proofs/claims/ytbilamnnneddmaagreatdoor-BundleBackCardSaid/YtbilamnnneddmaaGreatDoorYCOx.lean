import Derived.Test.YtbilamnnneddmaaGreatDoorYCJx
import Derived.LoopN
import Derived.LoopTactic
import Derived.Deep.WholeRow
import Derived.Deep.Onto
import Derived.Laws.OwnMore
namespace Go.Proofs.YtbilamnnneddmaaGreatDoor
set_option linter.unusedVariables false
set_option maxRecDepth 2000
set_option linter.unusedSimpArgs false
open Go.RowKit
attribute [local go_sem] nums_length st16 st64
def strF (kf:Nat→Int) (c:Int) (nf:Nat→Int) (i:Nat):Int:=blkF kf ((c+(i/64:Nat))%4294967296) nf (i%64)
theorem in_strF (kf:Nat→Int) (c:Int) (nf:Nat→Int) (i:Nat):inB (strF kf c nf i):=in_blkF _ _ _ _
theorem strF_blk (kf:Nat→Int) (c:Int) (nf:Nat→Int) (k j:Nat) (hj:j<64):strF kf c nf (64*k+j)=blkF kf ((c+(k:Int))%4294967296) nf j:=by
 unfold strF
 rw[show (64*k+j)/64=k by omega,show (64*k+j)%64=j by omega]
theorem nums_append (q:IntKind) (f g:Nat→Int) (a b:Nat) (h:∀ j,j<b→f (a+j)=g j):nums q f a ++ nums q g b=nums q f (a+b):=by
 apply List.ext_getElem?
 intro j
 by_cases h1:j<a
 ·rw[List.getElem?_append_left (by rw[nums_length];exact h1),nums_at _ _ h1,nums_at _ _ (by omega)]
 ·rw[List.getElem?_append_right (by rw[nums_length];omega),nums_length]
  by_cases h2:j<a+b
  ·rw[nums_at _ _ (by omega),nums_at _ _ h2,← h (j - a) (by omega),show a+(j - a)=j by omega]
  ·rw[nums_out _ _ (by omega),nums_out _ _ (by omega)]
theorem infoB:(Tryz.prog.info? 5).map (fun i=>(i.zero,i.size,i.bytes))=some (some (.int .u8 0),1,1):=by kernel_rfl
theorem infoB_parts:∃ i,Tryz.prog.info? 5=some i∧i.zero=some (.int .u8 0)∧i.size=1∧i.bytes=1:=by
 obtain⟨i,hi,h⟩:=Option.map_eq_some_iff.1 infoB
 simp only[Prod.mk.injEq] at h
 exact⟨i,hi,h.1,h.2.1,h.2.2⟩
theorem own_take {k:IntKind} {f:Nat→Int} {X n m:Nat} {W:World} (h:Own X (nums k f n) W) (hm:m≤n):∀ j u,(nums k f m)[j]?=some u→W.cell? ((⟨X,0,none⟩:Addr).add j)=some u:=fun j u hj=>by
 have hjm:j<m:=by
  have:=(List.getElem?_eq_some_iff.1 hj).1
  rwa [nums_length] at this
 rw[Addr.add_mid,Nat.zero_add]
 rw[nums_at _ _ hjm] at hj
 exact h.at j u ((nums_at _ _ (by omega)).trans hj)
def slLen:Value→Nat
 | .slice _ n _=>n
 | _=>0
theorem row_form {w:World} {base size n:Nat} {e:TypeId} {v:Value} {xs:List Value} (h:w.ownsRow base e size v n xs):∃ p c,v = .slice p n c∧n≤c:=by
 rcases h.2 with ⟨rfl,rfl⟩ | ⟨g,cap,cur,rfl,_,_,hc,_⟩
 ·exact⟨none,0,rfl,Nat.le_refl _⟩
 ·exact⟨_,cap,rfl,hc⟩
set_option maxHeartbeats 8000000 in
theorem Stream_any (kf nf:Nat→Int) (c n M:Int) (N:Nat) (hk:∀ i,i<32→inB (kf i)) (hn:∀ i,i<12→inB (nf i)) (hc:in32 c) (e1:(if n<0 then 0 else n)=M) (e2:(if 65536<M then 65536 else M)=(N:Int)) (hN:N≤65536) (w:World) (hg:Has 1 0 GL w) :
  Calls Tryz.prog 94 #[(.agg (nums .u8 kf 32).toArray),.int .u32 c,(.agg (nums .u8 nf 12).toArray),.int .i64 n] w fun e w'=>∃ v,e = .returned v∧w'.ownsRow w.heap.size 5 1 v N (nums .u8 (strF kf c nf) N)∧Below w.heap.size w w':=by
 have FK:=Lib.hid hk;have FN:=Lib.hid hn;have FC:=Lib.hid hc;have HG0:=Lib.hid hg;have LN:=Lib.hid hN
 clear hk hn hc hg hN
 obtain⟨i0,hi,hz0,hz1,hz2⟩:=infoB_parts
 have N0:(0:Int)≤(N:Int):=by omega
 go_enter Tryz.func94,Tryz.ntmps94
 go_upto_region 1 with fail
 obtain⟨W0,hW⟩:∃ W0,W0=((w.alloc (.cells (nums .u8 kf 32).toArray 22)).alloc (.cells (nums .u8 nf 12).toArray 54)):=⟨_,rfl⟩
 have hB0:Below w.heap.size w W0:=hW ▸ (Below.al (Below.al (Below.refl _ _)))
 have HK:Hid (Own w.heap.size (nums .u8 kf 32) W0):=Lib.hid (hW ▸ (show Own w.heap.size (nums .u8 kf 32) (w.alloc (.cells (nums .u8 kf 32).toArray 22)) from Own.newAt (by simp)).alloc)
 have HM:Hid (Own (w.heap.size+1) (nums .u8 nf 12) W0):=Lib.hid (hW ▸ (show Own (w.heap.size+1) (nums .u8 nf 12) ((w.alloc (.cells (nums .u8 kf 32).toArray 22)).alloc (.cells (nums .u8 nf 12).toArray 54)) from Own.newAt (by simp)))
 rw[← hW]
 clear hW
 obtain⟨M_,eM_⟩:∃ X,X=(w.heap.size+1):=⟨_,rfl⟩
 rw[← eM_] at HM ⊢
 have M_w:w.heap.size≤M_:=by omega
 obtain⟨K,eK⟩:∃ X,X=w.heap.size:=⟨_,rfl⟩
 rw[← eK] at HK ⊢
 have Kw:w.heap.size≤K:=by omega
 have nKM_:K≠M_:=by omega
 have nM_K:M_≠K:=by omega
 clear eK eM_
 have HG:=Lib.hid (HG0.out.later hB0)
 clear HG0
 obtain⟨W1,hmk,hrow,hgr⟩:=run_make_own (P:=Tryz.prog) W0 W0.heap.size 47 5 i0 (.int .u8 0) 1 Tryz.underlying47 hi hz0 hz1 .i64 .i64 N (by rw[hz2];have:=LN.out;omega) (by have:=LN.out;unfold maxLen;omega) (Nat.le_refl _)
 go_wp2_with (fail)
 have kK:K<W0.heap.size:=HK.out.lt
 have kM:M_<W0.heap.size:=HM.out.lt
 have k0:1<W0.heap.size:=HG.out.lt
 have hB1:Below W0.heap.size W0 W1:=(Below.refl _ _).grown hgr (Nat.le_refl _) (fun k hk=>nomatch hk)
 have hB2:=Below.go hB0 hB1
 replace HK:=Lib.hid (HK.out.later hB1)
 replace HM:=Lib.hid (HM.out.later hB1)
 replace HG:=Lib.hid (HG.out.later hB1)
 have hs1:=hB1.size
 have hB00:=Lib.hid hB0.size
 have ROW:=Lib.hid hrow
 clear hmk hgr hrow hB0 hB1
 go_loopw [1,9] (fun cv v wr=>∃ (k L:Nat) (cc:Int) (p:Option Addr) (cp:Nat),(L=64*k∨L=N)∧L≤N∧L≤64*k∧cv = .int .u32 cc∧Hid (cc=(c+(k:Int))%4294967296)∧v = .slice p L cp∧Hid (wr.ownsRow W0.heap.size 5 1 (.slice p L cp) L (nums .u8 (strF kf c nf) L))∧Hid (Below w.heap.size w wr)∧Hid (Own K (nums .u8 kf 32) wr)∧Hid (Own M_ (nums .u8 nf 12) wr)∧Hid (Has 1 0 GL wr)∧Hid (W0.heap.size≤wr.heap.size)) (fun _ v _=>(N - slLen v))
 case atStart=>exact⟨0,0,c,_,_,.inl rfl,Nat.zero_le _,Nat.le_refl _,rfl,Lib.hid (by have:=FC.out;unfold in32 at this;omega),rfl,ROW,Lib.hid hB2,HK,HM,HG,Lib.hid hs1⟩
 case round =>
  clear ROW HK HM HG hB2 hs1
  obtain⟨k,L,cc,p,cp,hL1,hL2,hL3,rfl,hcc,rfl,ROW,HB,HK,HM,HG,HS⟩:=hrel
  by_cases hlt:L<N
  ·have hL:L=64*k:=by omega
   obtain⟨d,hd⟩:∃ d:Nat,d=N - L:=⟨_,rfl⟩
   obtain⟨m,hm⟩:∃ m:Nat,m=min 64 d:=⟨_,rfl⟩
   have hm1:1≤m:=by omega
   have hm2:m≤64:=by omega
   have hm3:L+m≤N:=by omega
   have hm4:L+m=64*(k+1)∨L+m=N:=by omega
   have ed:(N:Int) - (L:Int)=(d:Int):=by omega
   have wd:IntKind.i64.wrap (d:Int)=(d:Int):=IntWalk.i64_in _ (by have:=LN.out;omega)
   have e3:(if (d:Int)<64 then (d:Int) else 64)=(m:Int):=by split<;>omega
   have m0:(0:Int)≤(m:Int):=by omega
   have m1:(m:Int)≤64:=by omega
   have hlti:(L:Int)<(N:Int):=by omega
   have ic:in32 cc:=by rw[hcc.out];unfold in32;omega
   have IC:=Lib.hid ic
   obtain⟨cn,fc⟩:∃ z,(cc+1)%4294967296=z:=⟨_,rfl⟩
   have gc:IntKind.u32.wrap (cc+1)=cn:=(IntKind.wrap_u32' _).trans fc
   have hcn:=Lib.hid (show cn=(c+((k+1:Nat):Int))%4294967296 by rw[← fc,hcc.out];omega)
   have HM4:=Lib.hid hm4;have HM3:=Lib.hid hm3;have HM1:=Lib.hid hm1;have HM2:=Lib.hid hm2;have HL:=Lib.hid hL
   clear ic hL hd hm hm1 hm2 hm3 hm4 hL1
   go_upto_region 4 with fail
   refine wp_region_lit ?_
   refine wpList_load_mid rfl 22 _ rfl K 0 rfl (nums .u8 kf 32) _ HK.out.cell Tryz.underlying22 rfl (by kernel_rfl) ?_
   refine wpList_move rfl _ rfl ?_
   refine wpList_load_mid rfl 54 _ rfl M_ 0 rfl (nums .u8 nf 12) _ HM.out.cell Tryz.underlying54 rfl (by kernel_rfl) ?_
   go_wp2_with (fail)
   go_at_call 130
   refine (Block_any kf nf cc FK.out FN.out IC.out _ HG.out).mono ?_
   rintro e w5 ⟨rfl,hb⟩
   go_upto_region 5 with fail
   replace ROW:=Lib.hid (row_later ROW.out hb)
   have HKk:=Lib.hid (HK.out.later hb)
   have HMk:=Lib.hid (HM.out.later hb)
   have HGk:=Lib.hid (HG.out.later hb)
   clear HK HM HG
   have HK:=HKk
   clear HKk
   have HM:=HMk
   clear HMk
   have HG:=HGk
   clear HGk
   have hB0:=Below.go HB.out hb
   have hS5:W0.heap.size≤w5.heap.size:=Nat.le_trans HS.out hb.size
   clear HB HS hb
   obtain⟨W5,hW⟩:∃ W5,W5=(w5.alloc (.cells (nums .u8 (blkF kf cc nf) 64).toArray 181)):=⟨_,rfl⟩
   have hBx:Below w5.heap.size w5 W5:=hW ▸ (Below.al (Below.refl _ _))
   have HX:Hid (Own w5.heap.size (nums .u8 (blkF kf cc nf) 64) W5):=Lib.hid (hW ▸ (show Own w5.heap.size (nums .u8 (blkF kf cc nf) 64) (w5.alloc (.cells (nums .u8 (blkF kf cc nf) 64).toArray 181)) from Own.newAt (by simp)))
   rw[← hW]
   clear hW
   obtain⟨X,eX⟩:∃ X,X=w5.heap.size:=⟨_,rfl⟩
   rw[← eX] at HX ⊢
   have Xw:w5.heap.size≤X:=by omega
   clear eX
   have nXK:X≠K:=by have:=HK.out.lt;omega
   have nKX:K≠X:=Ne.symm nXK
   have nXM_:X≠M_:=by have:=HM.out.lt;omega
   have nM_X:M_≠X:=Ne.symm nXM_
   have nX0:X≠1:=by have:=HG.out.lt;omega
   have n0X:1≠X:=Ne.symm nX0
   have Xw2:w.heap.size≤X:=by have:=hB0.size;omega
   clear Xw
   have Xw:=Xw2
   clear Xw2
   have HKk:=Lib.hid (HK.out.later hBx)
   have HMk:=Lib.hid (HM.out.later hBx)
   have HGk:=Lib.hid (HG.out.later hBx)
   clear HK HM HG
   have HK:=HKk
   clear HKk
   have HM:=HMk
   clear HMk
   have HG:=HGk
   clear HGk
   replace ROW:=Lib.hid (row_later ROW.out hBx)
   have hS6:W0.heap.size≤W5.heap.size:=Nat.le_trans hS5 hBx.size
   have hB0n:=Below.go hB0 hBx
   clear hB0 hBx
   have hB0:=hB0n
   clear hB0n
   have NL:=Lib.hid (show (nums .u8 (blkF kf cc nf) m).length=m*1 by rw[nums_length,Nat.mul_one])
   have NW:=Lib.hid (own_take HX.out HM2.out)
   have N63:=Lib.hid (show L+m≤maxLen by have:=HM3.out;have:=LN.out;unfold maxLen;omega)
   have NBY:=Lib.hid (show (L+m)*1≤140737488355328 by have:=HM3.out;have:=LN.out;omega)
   have HS6:=Lib.hid hS6
   have XS:=Lib.hid (nums_append .u8 (strF kf c nf) (blkF kf cc nf) L m (fun j hj=>by rw[HL.out,hcc.out];exact strF_blk kf c nf k j (by have:=HM2.out;omega)))
   have HB0:=Lib.hid hB0
   clear hS6 hS5 hB0
   go_wp2_with (at_builtin;refine wpList_append_own _ rfl _ _ 47 rfl W0.heap.size 5 i0 (.int .u8 0) 1 1 Tryz.underlying47 hi hz0 hz1 hz2 rfl (by decide) _ L _ rfl ROW.out ⟨X,0,none⟩ m 64 (nums .u8 (blkF kf cc nf) m) rfl NL.out NW.out (nums_one _ _ _) N63.out NBY.out HS6.out ?_;intro v' w6 hrow hgr _;obtain⟨p',c',rfl,_⟩:=row_form hrow;rw[XS.out] at hrow;have hn1:=row_ne ROW.out kK;have hn2:=row_ne ROW.out kM;have hn3:=row_ne ROW.out k0;have o1:=Lib.hid (HK.out.grown hgr hn1);have o2:=Lib.hid (HM.out.grown hgr hn2);have o3:=Lib.hid (HG.out.grown hgr hn3);have o4:=Lib.hid (HB0.out.grown hgr HB0.out.size fun q hq=>by have:=row_ge ROW.out q hq;have:=hB00.out;omega);have o5:=Lib.hid (Nat.le_trans HS6.out hgr.size);have o6:=Lib.hid hrow;clear hrow hgr hn1 hn2 hn3)
   go_roundw
   case rel=>(first | exact⟨k+1,L+m,cn,_,_,HM4.out,HM3.out,by have:=HL.out;have:=HM2.out;omega,rfl,hcn,rfl,o6,o4,o1,o2,o3,o5⟩ | ((repeat apply Exists.intro);exact⟨⟨k+1,L+m,cn,_,_,HM4.out,HM3.out,by have:=HL.out;have:=HM2.out;omega,rfl,hcn,rfl,o6,o4,o1,o2,o3,o5⟩,rfl⟩))
   case measure=>(have:=HM1.out;simp[slLen];omega)
  ·have eL:L=N:=by omega
   subst eL
   have hlti:decide ((L:Int)<(L:Int))=false:=by simp
   go_wp2_with (fail)
   go_ret
   exact⟨_,rfl,ROW.out.mono hB00.out,HB.out⟩
end Go.Proofs.YtbilamnnneddmaaGreatDoor
namespace Go.Proofs.YtbilamnnneddmaaGreatDoor
set_option linter.unusedVariables false
set_option maxRecDepth 2000
set_option linter.unusedSimpArgs false
open Go.RowKit
theorem sliced_head (p:Option Addr) (h c S:Nat):sliced p 0 h c S = .slice p h c:=by
 cases p with
 | none=>simp[sliced]
 | some a=>cases a;simp[sliced,Addr.add]
attribute [local go_sem ↓ high] sliced_head
def Byt (w:World) (q:Option Addr) (n:Nat) (f:Nat→Int):Prop:=n=0∨∃ b off,q=some ⟨b,off,none⟩∧Has b off (nums .u8 f n) w
theorem Byt.later {w w':World} {q:Option Addr} {n:Nat} {f:Nat→Int} (h:Byt w q n f) (hb:Below w.heap.size w w'):Byt w' q n f:=by
 rcases h with h | ⟨b,off,h1,h2⟩
 ·exact .inl h
 ·exact .inr ⟨b,off,h1,h2.later hb⟩
def Parts (w:World) (p:Option Addr) (np:Nat) (g:Nat→Int) (T:Nat→Nat):Prop:=∀ k,k<np→∃ D o q m c,p=some ⟨D,o,none⟩∧D<w.heap.size∧w.cell? ⟨D,o+k,none⟩=some (.slice q m c)∧m≤c∧c≤9223372036854775807∧T (k+1)=T k+m∧Byt w q m (fun j=>g (T k+j))
theorem Parts.later {w w':World} {p:Option Addr} {np:Nat} {g:Nat→Int} {T:Nat→Nat} (h:Parts w p np g T) (hb:Below w.heap.size w w'):Parts w' p np g T:=fun k hk=>by
 obtain⟨D,o,q,m,c,h1,h2,h3,h4,h5,h6,h7⟩:=h k hk
 exact⟨D,o,q,m,c,h1,Nat.lt_of_lt_of_le h2 hb.size,(hb.cell (p:=⟨D,o+k,none⟩) h2).trans h3,h4,h5,h6,h7.later hb⟩
theorem run_append_zero {P:Program} {w:World} {base size n t ty:Nat} {e:TypeId} {i:TypeInfo} {v:Value} {xs:List Value} (ht:P.underlying t=some (.slice e)) (hi:P.info? e=some i) (hown:w.ownsRow base e size v n xs) (q:Option Addr) (c:Nat) :
  (Builtin.append_ #[t,t] ty #[v,.slice q 0 c]).run P w = .ok v w:=by
 have hl:∀ (x:Addr),(loadCells x 0).run P w = .ok #[] w:=fun x=>by simpa using run_loadCells_list (P:=P) w x [] (by simp)
 rcases hown.2 with ⟨rfl,rfl⟩ | ⟨g,cap,cur,rfl,_,_,hnc,_⟩
 ·cases q<;>simp[Builtin.append_,run_underlying ht,sizeOf,typeInfo,hi,Builtin.lenOf,Builtin.firstCells,hl]
 ·cases q<;>simp[Builtin.append_,run_underlying ht,sizeOf,typeInfo,hi,Builtin.lenOf,Builtin.firstCells,hnc,storeCells,hl]
theorem wpList_append_zero {P:Program} {w:World} {ops:Array Oper} {rest:List Oper} {o:Oper} {a:Act} {Q:Exit→Act→World→Prop} (hgd:o.guard=none) (s x:Operand) (t:TypeId)
  (ho:o.op = .call { callee := .builtin .append,args:=#[s,x],argTypes:=#[t,t] }) {base size n:Nat} {e:TypeId} {i:TypeInfo} {v:Value} {xs:List Value} (ht:P.underlying t=some (.slice e)) (hi:P.info? e=some i)
  (hs:a.eval s=v) (hown:w.ownsRow base e size v n xs) (q:Option Addr) (c:Nat) (hx:a.eval x = .slice q 0 c) (h:wpList P ops Q rest (a.put o.dst v) w):wpList P ops Q (o :: rest) a w :=
 wpList_plain hgd fun K hK=>by
  unfold Oper.wp
  simp[execOp,ho,resolve,invoke,builtin,hs,hx,run_append_zero (P:=P) (ty:=o.type) ht hi hown q c,Result.andThen]
  exact hK _ _ h
set_option maxHeartbeats 8000000 in
theorem join_any (p:Option Addr) (np cp:Nat) (g:Nat→Int) (T:Nat→Nat) (hT0:T 0=0) (hT:∀ k,k≤np→T k≤65536) (hnc:np≤cp) (hcm:cp≤9223372036854775807) (w:World) (hp:Parts w p np g T) :
  Calls Tryz.prog 93 #[.slice p np cp] w fun e w'=>∃ v,e = .returned v∧w'.ownsRow w.heap.size 5 1 v (T np) (nums .u8 g (T np))∧Below w.heap.size w w':=by
 have PW:=Lib.hid hp;have HT:=Lib.hid hT;have HT0:=Lib.hid hT0;have NC:=Lib.hid hnc;have CM:=Lib.hid hcm
 clear hp hT hT0 hnc hcm
 obtain⟨i0,hi,hz0,hz1,hz2⟩:=infoB_parts
 go_enter Tryz.func93,Tryz.ntmps93
 go_wp2_with (fail)
 go_loopw [3,9] (fun v iv wr=>∃ (k:Nat) (p3:Option Addr) (c3:Nat),k≤np∧v = .slice p3 (T k) c3∧iv = .int .i64 k∧Hid (wr.ownsRow w.heap.size 5 1 (.slice p3 (T k) c3) (T k) (nums .u8 g (T k)))∧Hid (Below w.heap.size w wr)) (fun _ iv _=>(np - (intOf iv).toNat))
 case atStart=>exact⟨0,none,0,Nat.zero_le _,by rw[HT0.out],rfl,Lib.hid (by rw[HT0.out];exact World.ownsRow_nil _ _ _ _),Lib.hid (Below.refl _ _)⟩
 case round =>
  obtain⟨k,p3,c3,hk,rfl,rfl,ROW,HB⟩:=hrel
  by_cases hlt:k<np
  ·obtain⟨D,o,q,m,c,rfl,hD,hcell,hmc,hcx,hTk,hby⟩:=(PW.out.later HB.out) k hlt
   have hki:(k:Int)<(np:Int):=by omega
   have k0:(0:Int)≤(k:Int):=by omega
   have k63:(k:Int)+1≤9223372036854775807:=by have:=NC.out;have:=CM.out;omega
   have wk:IntKind.i64.wrap ((k:Int)+1)=(k:Int)+1:=IntWalk.i64_in _ (by omega)
   have hT1:=HT.out k (by omega)
   have hT2:=HT.out (k+1) (by omega)
   have HT2:=Lib.hid hT2
   have HTk:=Lib.hid hTk
   obtain⟨t,et⟩:∃ t,T k=t:=⟨_,rfl⟩
   rw[et] at hTk hT1 ROW hby HTk ⊢
   obtain⟨r,er⟩:∃ r:Nat,r=65536 - t:=⟨_,rfl⟩
   have e1:(65536:Int) - (t:Int)=(r:Int):=by omega
   have e2:IntKind.i64.wrap (r:Int)=(r:Int):=IntWalk.i64_in _ (by omega)
   have e3:(if (r:Int)<(m:Int) then (r:Int) else (m:Int))=(m:Int):=by rw[if_neg (by omega)]
   have m0:(0:Int)≤(m:Int):=by omega
   have m1:(m:Int)≤(c:Int):=by omega
   have HR:=Lib.hid (show t+m≤65536 by omega)
   have ET:=Lib.hid et
   clear et er hT1 hT2 hTk
   have DW:D<wr.heap.size:=hD
   by_cases hm:m=0
   ·subst hm
    clear hby
    go_wp2_with (at_builtin;refine wpList_append_zero rfl _ _ 47 rfl Tryz.underlying47 hi rfl ROW.out q c rfl ?_)
    go_roundw
    case rel=>(first | exact⟨k+1,p3,c3,by omega,by rw[HTk.out,Nat.add_zero],by go_num,Lib.hid (by rw[HTk.out,Nat.add_zero];exact ROW.out),HB⟩ | ((repeat apply Exists.intro);exact⟨⟨k+1,p3,c3,by omega,by rw[HTk.out,Nat.add_zero],by go_num,Lib.hid (by rw[HTk.out,Nat.add_zero];exact ROW.out),HB⟩,rfl⟩))
    case measure=>simp[intOf];omega
   ·obtain⟨b,off,rfl,hbs⟩:∃ b off,q=some ⟨b,off,none⟩∧Has b off (nums .u8 (fun j=>g (t+j)) m) wr:=hby.resolve_left hm
    have NW:Hid (∀ (j:Nat) (u:Value),(nums .u8 (fun j=>g (t+j)) m)[j]?=some u→wr.cell? ((⟨b,off,none⟩:Addr).add j)=some u):=Lib.hid fun j u hj=>by rw[Addr.add_mid];exact hbs.cell j u hj
    have NL:=Lib.hid (show (nums .u8 (fun j=>g (t+j)) m).length=m*1 by rw[nums_length,Nat.mul_one])
    have N63:=Lib.hid (show t+m≤maxLen by have:=HR.out;unfold maxLen;omega)
    have NBY:=Lib.hid (show (t+m)*1≤140737488355328 by have:=HR.out;omega)
    have XS:=Lib.hid (nums_append .u8 g (fun j=>g (t+j)) t m (fun j hj=>rfl))
    have HS:=Lib.hid HB.out.size
    clear hbs hby
    go_wp2_with (at_builtin;refine wpList_append_own _ rfl _ _ 47 rfl w.heap.size 5 i0 (.int .u8 0) 1 1 Tryz.underlying47 hi hz0 hz1 hz2 rfl (by decide) _ t _ rfl ROW.out ⟨b,off,none⟩ m c (nums .u8 (fun j=>g (t+j)) m) rfl NL.out NW.out (nums_one _ _ _) N63.out NBY.out HS.out ?_;intro v' w6 hrow hgr _;obtain⟨p',c',rfl,_⟩:=row_form hrow;rw[XS.out] at hrow;have o4:=Lib.hid (HB.out.grown hgr HB.out.size fun q hq=>row_ge ROW.out q hq);have o6:=Lib.hid hrow;clear hrow hgr)
    go_roundw
    case rel=>(first | exact⟨k+1,_,_,by omega,by rw[HTk.out],by go_num,Lib.hid (by rw[HTk.out];exact o6.out),o4⟩ | ((repeat apply Exists.intro);exact⟨⟨k+1,_,_,by omega,by rw[HTk.out],by go_num,Lib.hid (by rw[HTk.out];exact o6.out),o4⟩,rfl⟩))
    case measure=>simp[intOf];omega
  ·obtain rfl:k=np:=by omega
   go_wp2_with (fail)
   go_ret
   exact⟨_,rfl,ROW.out,HB.out⟩
end Go.Proofs.YtbilamnnneddmaaGreatDoor
namespace Go.Proofs.YtbilamnnneddmaaGreatDoor
set_option linter.unusedVariables false
set_option maxRecDepth 2000
set_option linter.unusedSimpArgs false
open Go.RowKit
def xorB (x y:Int):Int:=bits .xor .u8 x y
theorem xorB_nat (a b:Nat) (ha:a<256) (hb:b<256):xorB (a:Int) (b:Int)=((a ^^^ b:Nat):Int):=u8_xor_nat a b ha hb
theorem in_xorB {x y:Int} (hx:inB x) (hy:inB y):inB (xorB x y):=by
 unfold inB at *
 obtain⟨a,rfl⟩:=Int.eq_ofNat_of_zero_le hx.1
 obtain⟨b,rfl⟩:=Int.eq_ofNat_of_zero_le hy.1
 rw[xorB_nat a b (by omega) (by omega)]
 have:=Nat.xor_lt_two_pow (n:=8) (x:=a) (y:=b) (by omega) (by omega)
 omega
theorem xorB_back {x y:Int} (hx:inB x) (hy:inB y):xorB (xorB x y) y=x:=by
 unfold inB at *
 obtain⟨a,rfl⟩:=Int.eq_ofNat_of_zero_le hx.1
 obtain⟨b,rfl⟩:=Int.eq_ofNat_of_zero_le hy.1
 have:=Nat.xor_lt_two_pow (n:=8) (x:=a) (y:=b) (by omega) (by omega)
 rw[xorB_nat a b (by omega) (by omega),xorB_nat _ b (by omega) (by omega),Nat.xor_assoc,Nat.xor_self,Nat.xor_zero]
theorem nums_lset (k:IntKind) (f:Nat→Int) (n i:Nat) (v:Int):(nums k f n).set i (.int k v)=nums k (at1 f i v) n:=by
 apply List.ext_getElem?
 intro j
 rw[List.getElem?_set]
 by_cases hj:j<n
 ·rw[nums_at _ _ hj,nums_at _ _ hj,nums_length]
  unfold at1
  by_cases h:i=j
  ·subst h;simp[hj]
  ·rw[if_neg h,if_neg (fun e=>h e.symm)]
 ·rw[nums_out _ _ (by omega),nums_out _ _ (by omega),nums_length]
  by_cases h:i=j
  ·subst h;simp[hj]
  ·rw[if_neg h]
def mixF (g s:Nat→Int) (i:Nat):Nat→Int:=fun j=>if j<i then xorB (g j) (s j) else g j
theorem mix_step (g s:Nat→Int) (i n:Nat) (v:Int) (hv:v=xorB (g i) (s i)):nums .u8 (at1 (mixF g s i) i v) n=nums .u8 (mixF g s (i+1)) n:=nums_congr _ fun j _=>by
 unfold at1 mixF
 by_cases h:j=i
 ·rw[if_pos h,if_pos (by omega),h];exact hv
 ·rw[if_neg h]
  by_cases h2:j<i
  ·rw[if_pos h2,if_pos (by omega)]
  ·rw[if_neg h2,if_neg (by omega)]
theorem mix_all (g s:Nat→Int) (n:Nat):nums .u8 (mixF g s n) n=nums .u8 (fun j=>xorB (g j) (s j)) n:=nums_congr _ fun _ hj=>if_pos hj
theorem row_blk {w:World} {base size n:Nat} {e:TypeId} {v:Value} {xs:List Value} (h:w.ownsRow base e size v n xs) (hn:0<n):∃ X c,v = .slice (some ⟨X,0,none⟩) n c∧base≤X∧X<w.heap.size:=by
 rcases h.2 with ⟨_,h0⟩ | ⟨X,c,cur,rfl,h1,h2,_⟩
 ·omega
 ·exact⟨X,c,rfl,h1,(Array.getElem?_eq_some_iff.1 h2).1⟩
set_option maxHeartbeats 8000000 in
theorem Xor_any (kf nf:Nat→Int) (c:Int) (p:Option Addr) (np cp:Nat) (g:Nat→Int) (T:Nat→Nat) (hT0:T 0=0) (hT:∀ k,k≤np→T k≤65536) (hnc:np≤cp) (hcm:cp≤9223372036854775807) (hk:∀ i,i<32→inB (kf i)) (hn:∀ i,i<12→inB (nf i)) (hc:in32 c) (w:World) (hg:Has 1 0 GL w) (hp:Parts w p np g T) :
  Calls Tryz.prog 57 #[(.agg (nums .u8 kf 32).toArray),.int .u32 c,(.agg (nums .u8 nf 12).toArray),.slice p np cp] w fun e w'=>∃ v,e = .returned v∧w'.ownsRow w.heap.size 5 1 v (T np) (nums .u8 (fun j=>xorB (g j) (strF kf c nf j)) (T np))∧Below w.heap.size w w':=by
 have FK:=Lib.hid hk;have FN:=Lib.hid hn;have FC:=Lib.hid hc;have HG0:=Lib.hid hg
 have JC:Hid (∀ w2,Below w.heap.size w w2→Calls Tryz.prog 93 #[.slice p np cp] w2 fun e w'=>∃ v,e = .returned v∧w'.ownsRow w2.heap.size 5 1 v (T np) (nums .u8 g (T np))∧Below w2.heap.size w2 w'):=Lib.hid fun w2 h2=>join_any p np cp g T hT0 hT hnc hcm w2 (hp.later h2)
 have LN:=Lib.hid (hT np (Nat.le_refl _))
 obtain⟨N,eN⟩:∃ N,T np=N:=⟨_,rfl⟩
 rw[eN] at JC LN ⊢
 clear hk hn hc hg hT0 hT hnc hcm hp eN T
 go_enter Tryz.func57,Tryz.ntmps57
 go_upto_region 1 with fail
 obtain⟨W0,hW⟩:∃ W0,W0=((w.alloc (.cells (nums .u8 kf 32).toArray 22)).alloc (.cells (nums .u8 nf 12).toArray 54)):=⟨_,rfl⟩
 have hB0:Below w.heap.size w W0:=hW ▸ (Below.al (Below.al (Below.refl _ _)))
 have HK:Hid (Own w.heap.size (nums .u8 kf 32) W0):=Lib.hid (hW ▸ (show Own w.heap.size (nums .u8 kf 32) (w.alloc (.cells (nums .u8 kf 32).toArray 22)) from Own.newAt (by simp)).alloc)
 have HM:Hid (Own (w.heap.size+1) (nums .u8 nf 12) W0):=Lib.hid (hW ▸ (show Own (w.heap.size+1) (nums .u8 nf 12) ((w.alloc (.cells (nums .u8 kf 32).toArray 22)).alloc (.cells (nums .u8 nf 12).toArray 54)) from Own.newAt (by simp)))
 rw[← hW]
 clear hW
 obtain⟨M_,eM_⟩:∃ X,X=(w.heap.size+1):=⟨_,rfl⟩
 rw[← eM_] at HM ⊢
 have M_w:w.heap.size≤M_:=by omega
 obtain⟨K,eK⟩:∃ X,X=w.heap.size:=⟨_,rfl⟩
 rw[← eK] at HK ⊢
 have Kw:w.heap.size≤K:=by omega
 have nKM_:K≠M_:=by omega
 have nM_K:M_≠K:=by omega
 clear eK eM_
 have HG:=Lib.hid (HG0.out.later hB0)
 have W0S:=Lib.hid hB0.size
 clear HG0
 go_upto_region 2 with (go_at_call 93;refine (JC.out _ hB0).mono ?_;rintro e w1 ⟨v1,rfl,hrow,hb⟩;obtain⟨p1,c1,rfl,hc1⟩:=row_form hrow)
 have ROW:=Lib.hid hrow
 have NC1:=Lib.hid hc1
 have HX1:=Lib.hid hrow.lt
 have HKk:=Lib.hid (HK.out.later hb)
 have HMk:=Lib.hid (HM.out.later hb)
 have HGk:=Lib.hid (HG.out.later hb)
 clear HK HM HG
 have HK:=HKk
 clear HKk
 have HM:=HMk
 clear HMk
 have HG:=HGk
 clear HGk
 have hB1:=Below.go hB0 hb
 clear hB0 hrow hb JC hc1
 refine wp_region_lit ?_
 refine wpList_load_mid rfl 22 _ rfl K 0 rfl (nums .u8 kf 32) _ HK.out.cell Tryz.underlying22 rfl (by kernel_rfl) ?_
 refine wpList_move rfl _ rfl ?_
 refine wpList_load_mid rfl 54 _ rfl M_ 0 rfl (nums .u8 nf 12) _ HM.out.cell Tryz.underlying54 rfl (by kernel_rfl) ?_
 go_wp2_with (fail)
 go_at_call 94
 refine (Stream_any kf nf c (N:Int) (N:Int) N FK.out FN.out FC.out (by rw[if_neg (by omega)]) (by have:=LN.out;rw[if_neg (by omega)]) LN.out _ HG.out).mono ?_
 rintro e w2 ⟨v2,rfl,hrow2,hb2⟩
 obtain⟨p2,c2,rfl,hc2⟩:=row_form hrow2
 replace ROW:=Lib.hid (row_later ROW.out hb2)
 have ROW2:=Lib.hid hrow2
 have HB:=Lib.hid (Below.go hB1 hb2)
 have HS:=Lib.hid (row_ge hrow2)
 clear hrow2 HK HM HG hB1 hb2 hc2
 have hW0:Hid (w.heap.size≤W0.heap.size):=W0S
 by_cases hN:N=0
 ·subst hN
  go_wp2_with (fail)
  refine wp_loop_rounds 1 ?_
  rw[rounds_succ]
  go_wp2_with (fail)
  go_ret
  exact⟨_,rfl,ROW.out.mono hW0.out,HB.out⟩
 ·obtain⟨X,c3,e3,_,_⟩:=row_blk ROW.out (by omega)
  obtain⟨Y,c4,e4,_,_⟩:=row_blk ROW2.out (by omega)
  cases e3;cases e4
  have hX:=HX1.out X rfl
  have hY:=HS.out Y rfl
  have nXY:X≠Y:=by omega
  have nYX:=Ne.symm nXY
  have wX:w.heap.size≤X:=by have:=hW0.out;omega
  have HY:=Lib.hid (row_has ROW2.out).1
  have HX0:=Lib.hid hX.1
  clear hX hY HX1 HS ROW2
  go_wp2_with (fail)
  go_loopw [21] (fun iv wr=>∃ (i:Nat),i≤N∧iv = .int .i64 i∧Hid (wr.ownsRow W0.heap.size 5 1 (.slice (some ⟨X,0,none⟩) N c1) N (nums .u8 (mixF g (strF kf c nf) i) N))∧Hid (Has Y 0 (nums .u8 (strF kf c nf) N) wr)∧Hid (Below w.heap.size w wr)) (fun iv _=>(N - (intOf iv).toNat))
  case atStart=>exact⟨0,Nat.zero_le _,rfl,ROW,HY,HB⟩
  case round =>
   clear ROW HY HB
   obtain⟨i,hi,rfl,ROW,HY,HB⟩:=hrel
   by_cases hlt:i<N
   ·have hii:(i:Int)<(N:Int):=by omega
    have i0:(0:Int)≤(i:Int):=by omega
    have i63:(i:Int)+1≤9223372036854775807:=by have:=LN.out;omega
    have xc:=ROW.out.cellAt i (by omega)
    rw[nums_at _ _ hlt,show mixF g (strF kf c nf) i i=g i from if_neg (Nat.lt_irrefl _)] at xc
    have xf:=ROW.out.frozenAt i
    have yc:=HY.out.at i _ (nums_at _ _ hlt)
    rw[Nat.zero_add] at yc
    have yl:=HY.out.lt
    have xl:X<wr.heap.size:=(row_has ROW.out).1.lt
    have STP:=Lib.hid (fun v hv=>mix_step g (strF kf c nf) i N v hv)
    obtain⟨x,ex⟩:∃ x,g i=x:=⟨_,rfl⟩
    obtain⟨y,ey⟩:∃ y,strF kf c nf i=y:=⟨_,rfl⟩
    rw[ex] at xc STP;rw[ey] at yc STP
    obtain⟨v,ev⟩:∃ v,bits .xor .u8 x y=v:=⟨_,rfl⟩
    have o:=ROW.out.stored i (.int .u8 v)
    rw[nums_lset,STP.out v (by rw[← ev];rfl)] at o
    have o1:=Lib.hid o.1
    have o2:=Lib.hid (Has.far (c:=X) (o:=i) (vs:=[.int .u8 v]) HY.out nYX)
    have o3:=Lib.hid (Below.setCells HB.out wX [.int .u8 v] i)
    clear o STP ex ey
    go_wp2_with (fail)
    go_roundw
    case rel=>(first | exact⟨i+1,by omega,by go_num,o1,o2,o3⟩ | ((repeat apply Exists.intro);exact⟨⟨i+1,by omega,by go_num,o1,o2,o3⟩,rfl⟩))
    case measure=>simp[intOf];omega
   ·obtain rfl:i=N:=by omega
    go_wp2_with (fail)
    go_ret
    refine⟨_,rfl,?_,HB.out⟩
    have o:=ROW.out.mono hW0.out
    rwa [mix_all] at o
end Go.Proofs.YtbilamnnneddmaaGreatDoor
