import Derived.Test.YtbilamnnneddmaaGreatDoorZQgx
import Derived.OrdersHeld
import Derived.Lib.Hide
import Derived.LoopN
import Derived.LoopTactic
import Derived.Deep.Onto
import Derived.Deep.RegionHeld3
import Derived.Deep.QuietTactic
import Derived.BigQuiet
import Derived.Great.BuildSlice
import Derived.StillTailTactics
import Derived.Lib.SliceRun
namespace Go.Proofs.YtbilamnnneddmaaGreatDoor
set_option linter.unusedVariables false
set_option maxRecDepth 2000
set_option linter.unusedVariables false
set_option linter.unusedSimpArgs false
open Go.RowKit
theorem fro_one (n:Nat):froF 1 n 0=1:=by simp[froF,outF,dg,pw]
theorem fro_nil (n:Nat):froF 0 n 0=0:=by simp[froF,outF,dg,pw]
theorem gdec_congr {F G:Nat→Int} (h:∀ j,j<35→F j=G j):gdecE F 35=gdecE G 35:=by
 have vc:=fun t W=>val_congr (t:=t) (W:=W) h
 unfold gdecE
 rw[vc 8 1,vc 21 4,vc 25 4,vc 29 4,vc 33 2,show mskN F 35=mskN G 35 from funext fun j=>vc (13+j) 1]
theorem gqB_same {f f' g:Nat→Int} {n:Nat} (h:∀ j,j<n→f j=f' j):gqB f g n=gqB f' g n:=by
 unfold gqB
 exact decide_eq_decide.2 ⟨fun k j hj=>(h j hj).symm.trans (k j hj),fun k j hj=>(h j hj).trans (k j hj)⟩
theorem eqB_same {f f' g:Nat→Int} {n:Nat} (h:∀ j,j<n→f j=f' j):eqB f g n=eqB f' g n:=by
 unfold eqB
 exact decide_eq_decide.2 ⟨fun k j hj=>(h j hj).symm.trans (k j hj),fun k j hj=>(h j hj).trans (k j hj)⟩
theorem peek_congr {kf F G:Nat→Int} {N:Nat} (h:∀ j,j<63→F j=G j):pkE kf F N=pkE kf G N:=by
 unfold pkE peekE
 rw[gqB_same (f':=G) fun j hj=>h j (by omega),nonF_congr (b':=fun j=>G (4+j)) (fun j hj=>h _ (by omega)) 0,macF_congr (f':=G) (g':=fun j=>G (47+j)) (fun j hj=>h j (by omega)) (fun j hj=>absurd hj (Nat.not_lt_zero j)),eqB_same (f':=fun j=>G (47+(0+j))) fun j hj=>h _ (by omega),gdec_congr (G:=fun j=>G (12+j)) fun j hj=>h _ (by omega)]
theorem siz_congr {F G:Nat→Int} (h:∀ j,j<63→F j=G j):sizF F=sizF G:=congrArg Int.toNat (val_congr (t:=29) (W:=4) fun j hj=>h (12+j) (by omega))
theorem swap_open {kf b P F:Nat→Int} {M:Mn} {A:Ast} {N:Nat} (hM:okM M) (h:selE M A=0) (hN:615≤bunL (lenA A)) (hNN:67≤N) (h1:∀ j,j<63→F j=selF kf b M A j) (h2:F 63=selF kf b M A 339):opnE kf F N P=7:=by
 obtain⟨e1,e2,e3,_⟩:=back_man (kf:=kf) (b:=b) hM h
 have hp:pkE kf F N=0:=(peek_congr h1).trans (back_peek hM h (by omega))
 have hs:sizF F=lenA A:=(siz_congr h1).trans e2
 have hc:chE kf F N (lenA A) 0=7:=by
  unfold chE
  rw[if_neg (by omega),if_pos]
  refine decide_eq_false fun k=>?_
  have a:=k 0 (by decide)
  have c:=of_decide_eq_true (bun_fro (kf:=kf) (b:=b) (mF:=encM (M.of (lenA A))) (P:=encA A) (L:=lenA A) 1) 0 (by decide)
  rw[fro_nil] at a
  rw[fro_one] at c
  have d:F 63=1:=h2.trans c
  have a2:F 63=0:=a
  omega
 have h0:0<chN (lenA A):=by unfold bunL bunA chN at hN;unfold chN;omega
 have ho:opcE kf F N (lenA A)=7:=by
  unfold opcE
  rw[show firE (chE kf F N (lenA A)) (chN (lenA A))=7 from (firE_stop rfl (by rw[hc];decide) _ h0).trans hc,if_pos (by decide)]
 unfold opnE
 rw[if_neg (by rw[hp];decide),hs,ho,if_pos (by decide)]
theorem add_congr {T T':Nat→Int} (i n:Nat) (h:∀ j,j<16→T j=T' j):∀ j,j<20→addF T i n j=addF T' i n j:=fun j hj=>by
 unfold addF
 split
 ·rfl
 ·exact h _ (by omega)
theorem tag_congr {kf F G:Nat→Int} {L i:Nat} (h:∀ j,j<63+276*i+4+(chL L i+16)→F j=G j):tagC kf F L i=tagC kf G L i:=by
 unfold tagC
 rw[nonF_congr (b:=basF F) (b':=basF G) (fun j hj=>h _ (by omega)) _,macF_congr (f:=addF (ttF F) i (chL L i)) (f':=addF (ttF G) i (chL L i)) (g:=chkC F i) (g':=chkC G i) (add_congr i _ fun j hj=>h _ (by omega)) (fun j hj=>h _ (by omega)),eqB_same (f:=fun j=>chkC F i (chL L i+j)) (f':=fun j=>chkC G i (chL L i+j)) fun j hj=>h _ (by omega)]
theorem chE_congr {kf F G:Nat→Int} {N L i:Nat} (h:∀ j,j<63+276*i+4+(chL L i+16)→F j=G j):chE kf F N L i=chE kf G N L i:=by
 unfold chE
 rw[gqB_same (f':=fun j=>G (63+276*i+j)) fun j hj=>h _ (by omega),tag_congr h]
theorem more_open {kf b P F:Nat→Int} {M:Mn} {A:Ast} {N:Nat} (hM:okM M) (h:selE M A=0) (hN:bunL (lenA A)<N) (h1:∀ j,j<bunL (lenA A)→F j=selF kf b M A j):opnE kf F N P=7:=by
 have h63:63≤bunL (lenA A):=by unfold bunL bunA;omega
 obtain⟨e1,e2,e3,_⟩:=back_man (kf:=kf) (b:=b) hM h
 have hp:pkE kf F N=0:=(peek_congr fun j hj=>h1 j (by omega)).trans (back_peek hM h (by omega))
 have hs:sizF F=lenA A:=(siz_congr fun j hj=>h1 j (by omega)).trans e2
 have ho:opcE kf F N (lenA A)=7:=by
  unfold opcE
  have:firE (chE kf F N (lenA A)) (chN (lenA A))=0:=firE_zero.2 fun i hi=>by
   have hm:=bunA_mono (L:=lenA A) (show i+1≤chN (lenA A) by omega)
   have hq:=bunA_succ hi
   rw[chE_congr (G:=selF kf b M A) fun j hj=>h1 j (by unfold bunL;omega)]
   exact bun_chE hi (Nat.le_trans hm (Nat.le_of_lt hN))
  rw[if_neg (by rw[this];decide),if_pos hN]
 unfold opnE
 rw[if_neg (by rw[hp];decide),hs,ho,if_pos (by decide)]
end Go.Proofs.YtbilamnnneddmaaGreatDoor
namespace Go.Proofs.YtbilamnnneddmaaGreatDoor
set_option linter.unusedVariables false
set_option maxRecDepth 2000
set_option linter.unusedSimpArgs false
open Go.RowKit
theorem cut_at (z:Int) {N:Nat} (hN:0<N) (h1 : -9223372036854775808≤z∧z≤9223372036854775807) (h2:N≤2000):∃ k:Nat,k<N∧IntKind.i64.wrap (Int.tmod z N)=Int.tmod z N∧IntKind.i64.wrap (Int.tmod z N+N)=Int.tmod z N+N∧Int.tmod (Int.tmod z N+N) N=k:=by
 have a:=Int.tmod_lt_of_pos z (show (0:Int)<N by omega)
 have c : -(N:Int)<Int.tmod z N:=Int.lt_tmod_of_pos z (by omega)
 have e:=Int.tmod_eq_emod_of_nonneg (a:=Int.tmod z N+N) (b:=N) (by omega)
 have p:=Int.emod_nonneg (Int.tmod z N+N) (show (N:Int)≠0 by omega)
 have q:=Int.emod_lt_of_pos (Int.tmod z N+N) (show (0:Int)<N by omega)
 exact⟨((Int.tmod z N+N)%N).toNat,by omega,IntWalk.i64_in _ (by omega),IntWalk.i64_in _ (by omega),by rw[e];exact (Int.toNat_of_nonneg p).symm⟩
def q615 (D o c s:Nat):Option Addr:=if c=615 then some ⟨D,o,none⟩ else some ⟨D,o+615*s,none⟩
theorem sl615 (D o N c s:Nat):sliced (some ⟨D,o,none⟩) (Int.toNat 615) N c s = .slice (q615 D o c s) (N - 615) (c - 615):=by
 unfold sliced q615
 rw[show Int.toNat 615=615 from rfl]
 split
 ·rfl
 ·simp[Addr.add]
theorem byt615 {w:World} {D o N c:Nat} {F:Nat→Int} (h:Has D o (nums .u8 F N) w) (hN:615≤N) (hc:N≤c):Byt w (q615 D o c 1) (N - 615) fun j=>F (615+j):=by
 unfold q615
 by_cases e:N=615
 ·subst e;exact .inl rfl
 ·exact .inr ⟨D,o+615,if_neg (by omega),has_drop h (by omega)⟩
theorem byt_as_ {w:World} {q:Option Addr} {n:Nat} {f g:Nat→Int} (h:Byt w q n f) (e:∀ j,j<n→f j=g j):Byt w q n g:=by
 unfold Byt at h ⊢
 rwa [← nums_congr .u8 e]
def swF (F:Nat→Int) (j:Nat):Int:=if j<63 then F j else if j<339 then F (j+276) else if j<615 then F (j - 276) else F j
theorem sw_0 (F:Nat→Int) {j:Nat} (h:j<63):swF F j=F j:=if_pos h
theorem sw_1 (F:Nat→Int) {j:Nat} (h:j<276):swF F (63+j)=F (339+j):=by
 unfold swF
 rw[if_neg (by omega),if_pos (by omega),show 63+j+276=339+j by omega]
theorem sw_2 (F:Nat→Int) {j:Nat} (h:j<276):swF F (63+276+j)=F (63+j):=by
 unfold swF
 rw[if_neg (by omega),if_neg (by omega),if_pos (by omega),show 63+276+j - 276=63+j by omega]
theorem sw_3 (F:Nat→Int) (j:Nat):swF F (63+276+276+j)=F (615+j):=by
 unfold swF
 rw[if_neg (by omega),if_neg (by omega),if_neg (by omega)]
theorem in_swF {F:Nat→Int} (h:∀ j,inB (F j)) (j:Nat):inB (swF F j):=by
 unfold swF
 split
 ·exact h _
 ·split
  ·exact h _
  ·split<;>exact h _
theorem nums_join {k:IntKind} (f:Nat→Int) (n m:Nat):nums k f n ++ nums k (fun j=>f (n+j)) m=nums k f (n+m):=by
 refine List.ext_getElem? fun j=>?_
 rw[List.getElem?_append,nums_length]
 by_cases h:j<n
 ·rw[if_pos h,nums_at _ _ h,nums_at _ _ (by omega)]
 ·rw[if_neg h]
  by_cases h2:j<n+m
  ·rw[nums_at _ _ (by omega),nums_at _ _ h2,show n+(j - n)=j by omega]
  ·rw[nums_out _ _ (by omega),nums_out _ _ (by omega)]
attribute [local go_sem ↓ high] sl615
def putF (F:Nat→Int) (N j:Nat):Int:=if j<N then F j else 0
theorem putF_nums (F:Nat→Int) (N:Nat):nums .u8 F N ++ [.int .u8 0]=nums .u8 (putF F N) (N+1):=by
 refine List.ext_getElem? fun j=>?_
 rw[List.getElem?_append,nums_length]
 by_cases h:j<N
 ·rw[if_pos h,nums_at _ _ h,nums_at _ _ (by omega)]
  unfold putF
  rw[if_pos h]
 ·rw[if_neg h]
  by_cases h2:j=N
  ·subst h2
   rw[Nat.sub_self,nums_at _ _ (by omega)]
   unfold putF
   rw[if_neg h]
   rfl
  ·rw[nums_out _ _ (by omega),List.getElem?_eq_none (by simp;omega)]
theorem row_apart8 {W:World} {X Y t:Nat} {v u:Value} {T:TypeId} {f:Nat→Int} {cs:List Value} (hr:W.ownsRow X T 1 v t (nums .u8 f t)) (ht:0<t) (hY:Own Y (u :: cs) W) (hu:∀ z,Value.int .u8 z≠u):v.ownBlock≠some Y:=by
 obtain⟨b,c,rfl,_,_⟩:=row_blk hr ht
 intro e
 have e2:b=Y:=by simpa[Value.ownBlock] using e
 subst e2
 have h1:=(row_has hr).1.at 0 _ (nums_at .u8 f ht)
 have h2:=hY.at 0 _ rfl
 rw[Nat.add_zero] at h1
 rw[h1] at h2
 exact hu _ (by injection h2)
theorem open_cut (kf F:Nat→Int) (q:Option Addr) (N c:Nat) (er:Int) (hk:∀ i,i<32→inB (kf i)) (hF:∀ j,j<N→inB (F j)) (hN2:N≤1200) (hNc:N≤c) (hc:c≤9223372036854775807) (he:opnE kf F N (plaF kf F)=er) (w:World) (hG:Has 1 0 GL w) (hg:Has 0 0 CapL w) (hq:Byt w q N F) :
  Calls Tryz.prog 18 #[(.agg (nums .u8 kf 32).toArray),.slice q N c] w fun e w'=>∃ (m:Mn) (Y:Ast),e = .returned (.tuple #[.agg (cM m).toArray,.agg (cA Y).toArray,.int .i64 er])∧Below w.heap.size w w':=by
 refine (Open_any kf F (plaF kf F) (fun _ _=>rfl) q N c hk hF hN2 hNc hc w hG hg hq).mono ?_
 rintro e w' ⟨Y,rfl,_,_,_,_,h5⟩
 exact⟨_,Y,by rw[he],h5⟩
set_option maxHeartbeats 16000000 in
theorem Cut_core (kf b:Nat→Int) (M:Mn) (A0:Ast) (z:Int) (hz : -9223372036854775808≤z∧z≤9223372036854775807) (hk:∀ i,i<32→inB (kf i)) (hb:∀ i,i<8→inB (b i)) (hM:okM M) (w:World) (hA:AstAt A0 w) (hG:Has 1 0 GL w) (hg:Has 0 0 CapL w) :
  Calls Tryz.prog 8 #[.agg (cS kf b M).toArray,.agg (cA A0).toArray,.int .i64 z] w fun e w'=>e = .returned (.bool true)∧Below w.heap.size w w':=by
 have FK:=Lib.hid hk;have FB:=Lib.hid hb;have HG:=Lib.hid hG;have Hg:=Lib.hid hg;have HA_:=Lib.hid hA;have OM:=Lib.hid hM;have HZ:=Lib.hid hz
 have FW:=Lib.hid (lfew_any A0)
 have WK:=Lib.hid works16_any
 clear hk hb hM hA hG hg hz
 go_enter Tryz.func8,Tryz.ntmps8
 go_upto_region 1 with fail
 obtain⟨W0,D,eW,eX,HD,BW0,DW,SW0⟩:=al1 w _ (cS kf b M).toArray 29 (cS kf b M) rfl rfl
 rw[eW,eX]
 obtain⟨W1,X,eW,eX,HX,BW1,XW,SW1⟩:=al1 W0 _ (cA A0).toArray 45 (cA A0) SW0 rfl
 rw[eW,eX]
 have B:=Lib.hid (Below.go BW0.out BW1.out)
 obtain⟨hk_,hb_,hm_⟩:=cS_has (HD.out.later BW1.out).has
 have HK:=Lib.hid hk_;have HB:=Lib.hid hb_;have HM:=Lib.hid hm_
 have XW:=Lib.hid (show w.heap.size≤X∧D<X from ⟨Nat.le_trans BW0.out.size XW.out,Nat.lt_of_lt_of_le HD.out.lt XW.out⟩)
 clear eW eX BW0 BW1 SW0 SW1 HD hk_ hb_ hm_ DW
 go_wp2_with (refine wpList_load_mid rfl 45 _ rfl X 0 rfl (cA A0) _ HX.out.cell Tryz.underlying45 rfl (by kernel_rfl) ?_)
 go_at_call 9
 refine (FW.out _ (HA_.out.later B.out)).mono ?_
 rintro e w2 ⟨rfl,hb⟩
 replace HK:=Lib.hid (HK.out.later hb)
 replace HB:=Lib.hid (HB.out.later hb)
 replace HM:=Lib.hid (HM.out.later hb)
 replace HX:=Lib.hid (HX.out.later hb)
 replace B:=Lib.hid (Below.go B.out hb)
 clear hb FW
 go_upto_region 2 with (refine wpList_store_mid rfl 45 _ _ rfl X 0 (cA (fewA A0)).toArray rfl rfl (freeA HX.out) (by kernel_rfl) (cA_one _) ?_)
 have nX:=XW.out
 have HX2:=Lib.hid (putA (Y:=fewA A0) HX.out)
 have b2:=Below.setCells B.out nX.1 (cA (fewA A0)) 0
 have HK2:=Lib.hid (HK.out.far (c:=X) (o:=0) (vs:=cA (fewA A0)) (by omega));have HB2:=Lib.hid (HB.out.far (c:=X) (o:=0) (vs:=cA (fewA A0)) (by omega));have HM2:=Lib.hid (HM.out.far (c:=X) (o:=0) (vs:=cA (fewA A0)) (by omega))
 clear HK HB HM HX B
 generalize w2.setCells X 0 (cA (fewA A0))=w3 at *
 have HK:=HK2;have HB:=HB2;have HM:=HM2;have HX:=HX2;have B:=Lib.hid b2
 clear HK2 HB2 HM2 HX2 b2
 replace HA_:Hid (AstAt (fewA A0) w):=Lib.hid (fewA_at HA_.out)
 have FA:=Lib.hid (fewA_few A0)
 generalize fewA A0=A at *
 have SC:=Lib.hid (fun w hA hG hg=>Seal_b kf b M A FK.out FB.out OM.out FA.out w hA hG hg)
 go_wp2_with (first | (refine wpList_load_mid rfl 22 _ rfl D 0 rfl (nums .u8 kf 32) _ HK.out.cell Tryz.underlying22 rfl (by kernel_rfl) ?_) | (refine wpList_load_mid rfl 23 _ rfl D 32 rfl (nums .u8 b 8) _ HB.out.cell Tryz.underlying23 rfl (by kernel_rfl) ?_) | (refine wpList_load_mid rfl 27 _ rfl D 40 rfl (cM M) _ HM.out.cell Tryz.underlying27 rfl (by kernel_rfl) ?_) | (refine wpList_load_mid rfl 45 _ rfl X 0 rfl (cA A) _ HX.out.cell Tryz.underlying45 rfl (by kernel_rfl) ?_))
 go_at_call 10
 refine (SC.out _ (HA_.out.later B.out) (HG.out.later B.out) (Hg.out.later B.out)).mono ?_
 rintro e w4 ⟨v,rfl,⟨q,c,rfl,hc1,hc2,hy⟩,hb⟩
 replace HK:=Lib.hid (HK.out.later hb)
 replace B:=Lib.hid (Below.go B.out hb)
 have HY:=Lib.hid hy;have CC:=Lib.hid (And.intro hc1 hc2)
 clear hb hy hc1 hc2 SC HB HM HX XW nX
 obtain⟨es,hes⟩:∃ z,selE M A=z:=⟨_,rfl⟩
 rw[hes] at HY CC ⊢
 have ES:=Lib.hid hes
 clear hes
 by_cases h0:es=0
 ·subst h0
  rw[if_pos rfl] at HY CC ⊢
  have hL:=lenA_le (sel_zero ES.out).1
  have hbL:=bunL_le hL.2.1
  obtain⟨N,eN⟩:∃ N,bunL (lenA A)=N:=⟨_,rfl⟩
  have SW:=Lib.hid (fun (P F:Nat→Int) (N:Nat)=>swap_open (kf:=kf) (b:=b) (P:=P) (F:=F) (N:=N) OM.out ES.out)
  have BL:=Lib.hid (fun (P:Nat→Int) (N:Nat)=>back_less (kf:=kf) (b:=b) (P:=P) (N:=N) OM.out ES.out)
  have MO:=Lib.hid (fun (P F:Nat→Int) (N:Nat)=>more_open (kf:=kf) (b:=b) (P:=P) (F:=F) (N:=N) OM.out ES.out)
  have IF:=Lib.hid (fun j=>in_selF (kf:=kf) (b:=b) (M:=M) (A:=A) FB.out OM.out (sel_zero ES.out).1 j)
  rw[eN] at HY CC SW BL MO hbL ⊢
  generalize selF kf b M A=F at *
  clear hL eN ES OM FB FA HA_
  have NN:=Lib.hid hbL
  obtain⟨D2,o2,rfl,hQ⟩:=HY.out.resolve_left (by omega)
  have HQ:=Lib.hid hQ
  obtain⟨k,hkN,r1,r2,r3⟩:=cut_at z (N:=N) (by omega) HZ.out (by omega)
  have c0:((N:Int) == 0)=false:=by simp;omega
  have c1:(k:Int)≤(c:Int):=by have:=CC.out.1;omega
  have c2:(0:Int)≤(k:Int):=by omega
  have KN:=Lib.hid hkN
  have cz:N≠0:=by omega
  have n6:opnE kf F k (plaF kf F)≠0:=BL.out _ _ hkN
  obtain⟨er6,he6⟩:∃ x,opnE kf F k (plaF kf F)=x:=⟨_,rfl⟩
  rw[he6] at n6
  have N6:=Lib.hid n6
  have O6:=Lib.hid (fun w hG hg hq=>open_cut kf F (some ⟨D2,o2,none⟩) k c er6 FK.out (fun j _=>IF.out j) (by omega) (by have:=CC.out;omega) CC.out.2 he6 w hG hg hq)
  have HQ6:=Lib.hid (show Byt w4 (some ⟨D2,o2,none⟩) k F from .inr ⟨D2,o2,rfl,has_take hQ (by omega)⟩)
  clear n6 he6
  have O7:=Lib.hid (fun (q:Option Addr) (c:Nat) (h1:N+1≤c) (h2:c≤9223372036854775807) w hG hg hq=>open_cut kf (putF F N) q (N+1) c 7 FK.out (fun j _=>by unfold putF;split;exact IF.out j;unfold inB;omega) (by omega) h1 h2 (MO.out _ _ _ (Nat.lt_succ_self N) fun j hj=>if_pos hj) w hG hg hq)
  clear hQ HY hbL hkN
  go_upto_region 6 with fail
  refine wp_region_fun 15 (by kernel_rfl) (by kernel_rfl) rfl (fun s bl=>⟨#[.agg (cS kf b M).toArray,.agg (cA A0).toArray,.int .i64 z,.pointer (some ⟨D,0,none⟩),.pointer (some ⟨X,0,none⟩),undef,.bool false,.slice (some ⟨D2,o2,none⟩) N c,.int .i64 0,.int .i64 (k:Int),s 10,s 11,s 12,undef,undef,undef,undef,undef,undef,undef,.agg (cA A0).toArray,.agg (cA A).toArray,.tuple #[.slice (some ⟨D2,o2,none⟩) N c,.int .i64 0],.pointer (some ⟨D,0,none⟩),.agg (nums .u8 kf 32).toArray,.pointer (some ⟨D,32,none⟩),.agg (nums .u8 b 8).toArray,.pointer (some ⟨D,40,none⟩),.agg (cM M).toArray,.agg (cA A).toArray,.tuple #[.slice (some ⟨D2,o2,none⟩) N c,.int .i64 0],.slice (some ⟨D2,o2,none⟩) N c,.int .i64 0,.int .i64 0,.bool false,.bool false,.slice (some ⟨D2,o2,none⟩) N c,.int .i64 (N:Int),.bool false,.bool false,undef,undef,undef,undef,undef,.int .i64 z,.slice (some ⟨D2,o2,none⟩) N c,.int .i64 (N:Int),.int .i64 (Int.tmod z (N:Int)),.slice (some ⟨D2,o2,none⟩) N c,.int .i64 (N:Int),.int .i64 (Int.tmod z (N:Int)+(N:Int)),.slice (some ⟨D2,o2,none⟩) N c,.int .i64 (N:Int),.int .i64 (k:Int),s 55,s 56,s 57,s 58,s 59,s 60,s 61,s 62,s 63,s 64,undef,undef,undef,undef,undef,undef,undef,undef,undef,undef,undef,undef,undef,undef,undef,undef,undef,undef,undef,undef,undef,undef,undef,undef,undef,undef,undef,undef,undef,undef,undef,undef,undef,undef,undef,undef,undef,undef,undef,undef,undef,undef,undef,undef,undef,undef,undef,undef,undef,undef,undef],[]⟩) (fun d s bl w=>(Below w4.heap.size w4 w)∧(d 0=true→s 56 = .pointer (some ⟨D,0,none⟩))∧(d 1=true→s 57=(.agg (nums .u8 kf 32).toArray))∧(d 2=true→s 58 = .slice (some ⟨D2,o2,none⟩) N c)∧(d 3=true→s 59 = .int .i64 (k:Int))∧(d 4=true→s 60 = .slice (some ⟨D2,o2,none⟩) k c)∧(d 5=true→∃ m Y,s 61 = .tuple #[.agg (cM m).toArray,.agg (cA Y).toArray,.int .i64 er6])∧(d 6=true→∃ m Y,s 55 = .tuple #[.agg (cM m).toArray,.agg (cA Y).toArray,.int .i64 er6])∧(d 7=true→∃ m,s 62 = .agg (cM m).toArray)∧(d 8=true→∃ Y,s 63 = .agg (cA Y).toArray)∧(d 9=true→s 64 = .int .i64 er6)∧(d 10=true→s 10 = .pointer (some ⟨(bl 10),0,none⟩)∧w4.heap.size≤bl 10)∧(d 10=true→bl 10<w.heap.size)∧(d 10=true→d 12=false→Own (bl 10) (cM nilMn) w)∧(d 11=true→s 11 = .pointer (some ⟨(bl 11),0,none⟩)∧w4.heap.size≤bl 11)∧(d 11=true→bl 11<w.heap.size)∧(d 11=true→d 13=false→Own (bl 11) (cA (kinA 0)) w)∧(d 14=true→s 12 = .int .i64 er6)∧(d 10=true→d 11=true→bl 10≠bl 11)) rfl ?h0w6 (?stw6:StepsF _ _ _ _ 15 _ _ [0,1,2,3,4,5,6,7,8,9,10,11,12,13,14]) ?dnw6
  case h0w6=>exact⟨Below.drew (Below.refl _ _),(fun h=>nomatch h),(fun h=>nomatch h),(fun h=>nomatch h),(fun h=>nomatch h),(fun h=>nomatch h),(fun h=>nomatch h),(fun h=>nomatch h),(fun h=>nomatch h),(fun h=>nomatch h),(fun h=>nomatch h),(fun h=>nomatch h),(fun h=>nomatch h),(fun h=>nomatch h),(fun h=>nomatch h),(fun h=>nomatch h),(fun h=>nomatch h),(fun h=>nomatch h),(fun h=>nomatch h)⟩
  case stw6 =>
   refine StepsF.cons (o:=_) rfl (ws:=[]) (by kernel_rfl) (by decide) (fun d s bl w hF hd hw K_ hK=>?_) ?_
   ·have hB:Below w4.heap.size w4 w:=(p0_ hF.out)
    dsimp only
    go_simp
    exact hK.out (ups s 56 (.pointer (some ⟨D,0,none⟩))) bl _ ⟨hB,(fun _=>rfl),(p2_ hF.out),(p3_ hF.out),(p4_ hF.out),(p5_ hF.out),(p6_ hF.out),(p7_ hF.out),(p8_ hF.out),(p9_ hF.out),(p10_ hF.out),(p11_ hF.out),(p12_ hF.out),(p13_ hF.out),(p14_ hF.out),(p15_ hF.out),(p16_ hF.out),(p17_ hF.out),(q18_ hF.out)⟩
   refine StepsF.cons (o:=_) rfl (ws:=[0]) (by kernel_rfl) (by decide) (fun d s bl w hF hd hw K_ hK=>?_) ?_
   ·have hB:Below w4.heap.size w4 w:=(p0_ hF.out)
    have e0:s 56 = .pointer (some ⟨D,0,none⟩):=(p1_ hF.out) (hw 0 (by decide))
    refine step_load (by simp[Region.wanted]) 22 _ rfl D 0 e0 (nums .u8 kf 32) _ (HK.out.later hB).cell Tryz.underlying22 rfl (by kernel_rfl) ?_
    exact hK.out (ups s 57 ((.agg (nums .u8 kf 32).toArray))) bl _ ⟨hB,(p1_ hF.out),(fun _=>rfl),(p3_ hF.out),(p4_ hF.out),(p5_ hF.out),(p6_ hF.out),(p7_ hF.out),(p8_ hF.out),(p9_ hF.out),(p10_ hF.out),(p11_ hF.out),(p12_ hF.out),(p13_ hF.out),(p14_ hF.out),(p15_ hF.out),(p16_ hF.out),(p17_ hF.out),(q18_ hF.out)⟩
   refine StepsF.cons (o:=_) rfl (ws:=[]) (by kernel_rfl) (by decide) (fun d s bl w hF hd hw K_ hK=>?_) ?_
   ·have hB:Below w4.heap.size w4 w:=(p0_ hF.out)
    dsimp only
    go_simp
    exact hK.out (ups s 58 (.slice (some ⟨D2,o2,none⟩) N c)) bl _ ⟨hB,(p1_ hF.out),(p2_ hF.out),(fun _=>rfl),(p4_ hF.out),(p5_ hF.out),(p6_ hF.out),(p7_ hF.out),(p8_ hF.out),(p9_ hF.out),(p10_ hF.out),(p11_ hF.out),(p12_ hF.out),(p13_ hF.out),(p14_ hF.out),(p15_ hF.out),(p16_ hF.out),(p17_ hF.out),(q18_ hF.out)⟩
   refine StepsF.cons (o:=_) rfl (ws:=[]) (by kernel_rfl) (by decide) (fun d s bl w hF hd hw K_ hK=>?_) ?_
   ·have hB:Below w4.heap.size w4 w:=(p0_ hF.out)
    dsimp only
    go_simp
    exact hK.out (ups s 59 (.int .i64 (k:Int))) bl _ ⟨hB,(p1_ hF.out),(p2_ hF.out),(p3_ hF.out),(fun _=>rfl),(p5_ hF.out),(p6_ hF.out),(p7_ hF.out),(p8_ hF.out),(p9_ hF.out),(p10_ hF.out),(p11_ hF.out),(p12_ hF.out),(p13_ hF.out),(p14_ hF.out),(p15_ hF.out),(p16_ hF.out),(p17_ hF.out),(q18_ hF.out)⟩
   refine StepsF.cons (o:=_) rfl (ws:=[2,3]) (by kernel_rfl) (by decide) (fun d s bl w hF hd hw K_ hK=>?_) ?_
   ·have hB:Below w4.heap.size w4 w:=(p0_ hF.out)
    have e2:s 58 = .slice (some ⟨D2,o2,none⟩) N c:=(p3_ hF.out) (hw 2 (by decide))
    have e3:s 59 = .int .i64 (k:Int):=(p4_ hF.out) (hw 3 (by decide))
    dsimp only
    go_simp
    exact hK.out (ups (ups (ups s 58 (.slice (some ⟨D2,o2,none⟩) N c)) 59 (.int .i64 (k:Int))) 60 (.slice (some ⟨D2,o2,none⟩) k c)) bl _ ⟨hB,(p1_ hF.out),(p2_ hF.out),(fun _=>rfl),(fun _=>rfl),(fun _=>rfl),(p6_ hF.out),(p7_ hF.out),(p8_ hF.out),(p9_ hF.out),(p10_ hF.out),(p11_ hF.out),(p12_ hF.out),(p13_ hF.out),(p14_ hF.out),(p15_ hF.out),(p16_ hF.out),(p17_ hF.out),(q18_ hF.out)⟩
   refine StepsF.cons (o:=_) rfl (ws:=[1,4]) (by kernel_rfl) (by decide) (fun d s bl w hF hd hw K_ hK=>?_) ?_
   ·have hB:Below w4.heap.size w4 w:=(p0_ hF.out)
    have e1:s 57=(.agg (nums .u8 kf 32).toArray):=(p2_ hF.out) (hw 1 (by decide))
    have e4:s 60 = .slice (some ⟨D2,o2,none⟩) k c:=(p5_ hF.out) (hw 4 (by decide))
    dsimp only
    go_simp
    go_at_call 18
    refine (O6.out _ (HG.out.later (Below.go B.out hB)) (Hg.out.later (Below.go B.out hB)) (HQ6.out.later hB)).mono ?_
    rintro e w1 ⟨m,Y,rfl,hb⟩
    exact hK.out (ups (ups (ups s 57 ((.agg (nums .u8 kf 32).toArray))) 60 (.slice (some ⟨D2,o2,none⟩) k c)) 61 (.tuple #[.agg (cM m).toArray,.agg (cA Y).toArray,.int .i64 er6])) bl _ ⟨(Below.go hB hb),(p1_ hF.out),(fun _=>rfl),(p3_ hF.out),(p4_ hF.out),(fun _=>rfl),(fun _=>⟨m,Y,rfl⟩),(p7_ hF.out),(p8_ hF.out),(p9_ hF.out),(p10_ hF.out),(p11_ hF.out),(fun h0=>Nat.lt_of_lt_of_le ((p12_ hF.out) h0) hb.size),(fun h0 h1=>((p13_ hF.out) h0 h1).later hb),(p14_ hF.out),(fun h0=>Nat.lt_of_lt_of_le ((p15_ hF.out) h0) hb.size),(fun h0 h1=>((p16_ hF.out) h0 h1).later hb),(p17_ hF.out),(q18_ hF.out)⟩
   refine StepsF.cons (o:=_) rfl (ws:=[5]) (by kernel_rfl) (by decide) (fun d s bl w hF hd hw K_ hK=>?_) ?_
   ·have hB:Below w4.heap.size w4 w:=(p0_ hF.out)
    obtain⟨m5,Y5,e5⟩:=(p6_ hF.out) (hw 5 (by decide))
    dsimp only
    go_simp
    exact hK.out (ups (ups s 61 (.tuple #[.agg (cM m5).toArray,.agg (cA Y5).toArray,.int .i64 er6])) 55 (.tuple #[.agg (cM m5).toArray,.agg (cA Y5).toArray,.int .i64 er6])) bl _ ⟨hB,(p1_ hF.out),(p2_ hF.out),(p3_ hF.out),(p4_ hF.out),(p5_ hF.out),(fun _=>⟨m5,Y5,rfl⟩),(fun _=>⟨m5,Y5,rfl⟩),(p8_ hF.out),(p9_ hF.out),(p10_ hF.out),(p11_ hF.out),(p12_ hF.out),(p13_ hF.out),(p14_ hF.out),(p15_ hF.out),(p16_ hF.out),(p17_ hF.out),(q18_ hF.out)⟩
   refine StepsF.cons (o:=_) rfl (ws:=[6]) (by kernel_rfl) (by decide) (fun d s bl w hF hd hw K_ hK=>?_) ?_
   ·have hB:Below w4.heap.size w4 w:=(p0_ hF.out)
    obtain⟨m6,Y6,e6⟩:=(p7_ hF.out) (hw 6 (by decide))
    dsimp only
    go_simp
    exact hK.out (ups (ups s 55 (.tuple #[.agg (cM m6).toArray,.agg (cA Y6).toArray,.int .i64 er6])) 62 (.agg (cM m6).toArray)) bl _ ⟨hB,(p1_ hF.out),(p2_ hF.out),(p3_ hF.out),(p4_ hF.out),(p5_ hF.out),(p6_ hF.out),(fun _=>⟨m6,Y6,rfl⟩),(fun _=>⟨m6,rfl⟩),(p9_ hF.out),(p10_ hF.out),(p11_ hF.out),(p12_ hF.out),(p13_ hF.out),(p14_ hF.out),(p15_ hF.out),(p16_ hF.out),(p17_ hF.out),(q18_ hF.out)⟩
   refine StepsF.cons (o:=_) rfl (ws:=[6]) (by kernel_rfl) (by decide) (fun d s bl w hF hd hw K_ hK=>?_) ?_
   ·have hB:Below w4.heap.size w4 w:=(p0_ hF.out)
    obtain⟨m6,Y6,e6⟩:=(p7_ hF.out) (hw 6 (by decide))
    dsimp only
    go_simp
    exact hK.out (ups (ups s 55 (.tuple #[.agg (cM m6).toArray,.agg (cA Y6).toArray,.int .i64 er6])) 63 (.agg (cA Y6).toArray)) bl _ ⟨hB,(p1_ hF.out),(p2_ hF.out),(p3_ hF.out),(p4_ hF.out),(p5_ hF.out),(p6_ hF.out),(fun _=>⟨m6,Y6,rfl⟩),(p8_ hF.out),(fun _=>⟨Y6,rfl⟩),(p10_ hF.out),(p11_ hF.out),(p12_ hF.out),(p13_ hF.out),(p14_ hF.out),(p15_ hF.out),(p16_ hF.out),(p17_ hF.out),(q18_ hF.out)⟩
   refine StepsF.cons (o:=_) rfl (ws:=[6]) (by kernel_rfl) (by decide) (fun d s bl w hF hd hw K_ hK=>?_) ?_
   ·have hB:Below w4.heap.size w4 w:=(p0_ hF.out)
    obtain⟨m6,Y6,e6⟩:=(p7_ hF.out) (hw 6 (by decide))
    dsimp only
    go_simp
    exact hK.out (ups (ups s 55 (.tuple #[.agg (cM m6).toArray,.agg (cA Y6).toArray,.int .i64 er6])) 64 (.int .i64 er6)) bl _ ⟨hB,(p1_ hF.out),(p2_ hF.out),(p3_ hF.out),(p4_ hF.out),(p5_ hF.out),(p6_ hF.out),(fun _=>⟨m6,Y6,rfl⟩),(p8_ hF.out),(p9_ hF.out),(fun _=>rfl),(p11_ hF.out),(p12_ hF.out),(p13_ hF.out),(p14_ hF.out),(p15_ hF.out),(p16_ hF.out),(p17_ hF.out),(q18_ hF.out)⟩
   refine StepsF.cons (o:=_) rfl (ws:=[]) (by kernel_rfl) (by decide) (fun d s bl w hF hd hw K_ hK=>?_) ?_
   ·have hB:Below w4.heap.size w4 w:=(p0_ hF.out)
    go_simp
    exact hK.out (ups s 10 (.pointer (some ⟨w.heap.size,0,none⟩))) (ups bl 10 w.heap.size) _ ⟨(hB.alloc hB.size _),(p1_ hF.out),(p2_ hF.out),(p3_ hF.out),(p4_ hF.out),(p5_ hF.out),(p6_ hF.out),(p7_ hF.out),(p8_ hF.out),(p9_ hF.out),(p10_ hF.out),(fun _=>⟨rfl,hB.size⟩),(fun _=>by show w.heap.size<(World.alloc _ _).heap.size;simp),(fun _ _=>Own.newAt rfl),(p14_ hF.out),(fun h0=>Nat.lt_of_lt_of_le ((p15_ hF.out) h0) (Below.al (Below.refl _ _)).size),(fun h0 h1=>((p16_ hF.out) h0 h1).alloc),(p17_ hF.out),(fun _ h=>Nat.ne_of_gt ((p15_ hF.out) h))⟩
   refine StepsF.cons (o:=_) rfl (ws:=[]) (by kernel_rfl) (by decide) (fun d s bl w hF hd hw K_ hK=>?_) ?_
   ·have hB:Below w4.heap.size w4 w:=(p0_ hF.out)
    go_simp
    exact hK.out (ups s 11 (.pointer (some ⟨w.heap.size,0,none⟩))) (ups bl 11 w.heap.size) _ ⟨(hB.alloc hB.size _),(p1_ hF.out),(p2_ hF.out),(p3_ hF.out),(p4_ hF.out),(p5_ hF.out),(p6_ hF.out),(p7_ hF.out),(p8_ hF.out),(p9_ hF.out),(p10_ hF.out),(p11_ hF.out),(fun h0=>Nat.lt_of_lt_of_le ((p12_ hF.out) h0) (Below.al (Below.refl _ _)).size),(fun h0 h1=>((p13_ hF.out) h0 h1).alloc),(fun _=>⟨rfl,hB.size⟩),(fun _=>by show w.heap.size<(World.alloc _ _).heap.size;simp),(fun _ _=>Own.newAt rfl),(p17_ hF.out),(fun h _=>Nat.ne_of_lt ((p12_ hF.out) h))⟩
   refine StepsF.cons (o:=_) rfl (ws:=[10,7,5,0,1,2,3,4,5,6,7,10,11]) (by kernel_rfl) (by decide) (fun d s bl w hF hd hw K_ hK=>?_) ?_
   ·have hB:Below w4.heap.size w4 w:=(p0_ hF.out)
    obtain⟨m7,e7⟩:=(p8_ hF.out) (hw 7 (by decide))
    have e10:s 10 = .pointer (some ⟨(bl 10),0,none⟩):=((p11_ hF.out) (hw 10 (by decide))).1
    have le10:=((p11_ hF.out) (hw 10 (by decide))).2
    have oX:=(p13_ hF.out) (hw 10 (by decide)) hd
    dsimp only
    rw[e10,e7]
    rw[if_pos]
    rotate_left
    ·simp[Region.wanted]
    refine wp_store_mid 27 _ _ rfl (bl 10) 0 ((cM m7)).toArray rfl rfl (freeM oX) (by kernel_rfl) (cM_one _) ?_
    exact hK.out (ups (ups s 62 (.agg (cM m7).toArray)) 10 (.pointer (some ⟨(bl 10),0,none⟩))) bl _ ⟨(Below.setCells hB le10 ((cM m7)) 0),(p1_ hF.out),(p2_ hF.out),(p3_ hF.out),(p4_ hF.out),(p5_ hF.out),(p6_ hF.out),(p7_ hF.out),(fun _=>⟨m7,rfl⟩),(p9_ hF.out),(p10_ hF.out),(fun _=>⟨rfl,le10⟩),(fun h0=>(by rw[size_setCells];exact ((p12_ hF.out) h0))),(fun _ h=>nomatch h),(p14_ hF.out),(fun h0=>(by rw[size_setCells];exact ((p15_ hF.out) h0))),(fun h0 h1=>Own.far (o:=0) (vs:=(cM m7)) ((p16_ hF.out) h0 h1) ((q18_ hF.out) (hw 10 (by decide)) h0).symm),(p17_ hF.out),(q18_ hF.out)⟩
   refine StepsF.cons (o:=_) rfl (ws:=[11,8,12,0,1,2,3,4,5,6,7,8,10,11,12]) (by kernel_rfl) (by decide) (fun d s bl w hF hd hw K_ hK=>?_) ?_
   ·have hB:Below w4.heap.size w4 w:=(p0_ hF.out)
    obtain⟨Y8,e8⟩:=(p9_ hF.out) (hw 8 (by decide))
    have e11:s 11 = .pointer (some ⟨(bl 11),0,none⟩):=((p14_ hF.out) (hw 11 (by decide))).1
    have le11:=((p14_ hF.out) (hw 11 (by decide))).2
    have oX:=(p16_ hF.out) (hw 11 (by decide)) hd
    dsimp only
    rw[e11,e8]
    rw[if_pos]
    rotate_left
    ·simp[Region.wanted]
    refine wp_store_mid 45 _ _ rfl (bl 11) 0 ((cA Y8)).toArray rfl rfl (freeA oX) (by kernel_rfl) (cA_one _) ?_
    exact hK.out (ups (ups s 63 (.agg (cA Y8).toArray)) 11 (.pointer (some ⟨(bl 11),0,none⟩))) bl _ ⟨(Below.setCells hB le11 ((cA Y8)) 0),(p1_ hF.out),(p2_ hF.out),(p3_ hF.out),(p4_ hF.out),(p5_ hF.out),(p6_ hF.out),(p7_ hF.out),(p8_ hF.out),(fun _=>⟨Y8,rfl⟩),(p10_ hF.out),(p11_ hF.out),(fun h0=>(by rw[size_setCells];exact ((p12_ hF.out) h0))),(fun _ h=>absurd (hw 12 (by decide)) (by have h2:d 12=false:=h;simp[h2])),(fun _=>⟨rfl,le11⟩),(fun h0=>(by rw[size_setCells];exact ((p15_ hF.out) h0))),(fun _ h=>nomatch h),(p17_ hF.out),(q18_ hF.out)⟩
   refine StepsF.cons (o:=_) rfl (ws:=[9,13,0,1,2,3,4,5,6,7,8,9,10,11,12,13]) (by kernel_rfl) (by decide) (fun d s bl w hF hd hw K_ hK=>?_) ?_
   ·have hB:Below w4.heap.size w4 w:=(p0_ hF.out)
    have e9:s 64 = .int .i64 er6:=(p10_ hF.out) (hw 9 (by decide))
    dsimp only
    go_simp
    exact hK.out (ups (ups s 64 (.int .i64 er6)) 12 (.int .i64 er6)) bl _ ⟨hB,(p1_ hF.out),(p2_ hF.out),(p3_ hF.out),(p4_ hF.out),(p5_ hF.out),(p6_ hF.out),(p7_ hF.out),(p8_ hF.out),(p9_ hF.out),(fun _=>rfl),(p11_ hF.out),(p12_ hF.out),(fun _ h=>absurd (hw 12 (by decide)) (by have h2:d 12=false:=h;simp[h2])),(p14_ hF.out),(p15_ hF.out),(fun _ h=>absurd (hw 13 (by decide)) (by have h2:d 13=false:=h;simp[h2])),(fun _=>rfl),(q18_ hF.out)⟩
   exact StepsF.nil
  intro d s bl w6 hF hall
  replace hF:=Lib.hid hF
  have hB:Below w4.heap.size w4 w6:=(p0_ hF.out)
  try dsimp only
  have e0:s 56 = .pointer (some ⟨D,0,none⟩):=(p1_ hF.out) (hall 0 (by decide))
  have e1:s 57=(.agg (nums .u8 kf 32).toArray):=(p2_ hF.out) (hall 1 (by decide))
  have e2:s 58 = .slice (some ⟨D2,o2,none⟩) N c:=(p3_ hF.out) (hall 2 (by decide))
  have e3:s 59 = .int .i64 (k:Int):=(p4_ hF.out) (hall 3 (by decide))
  have e4:s 60 = .slice (some ⟨D2,o2,none⟩) k c:=(p5_ hF.out) (hall 4 (by decide))
  have e9:s 64 = .int .i64 er6:=(p10_ hF.out) (hall 9 (by decide))
  have e14:s 12 = .int .i64 er6:=(p17_ hF.out) (hall 14 (by decide))
  rw[e0,e1,e2,e3,e4,e9,e14]
  clear hall hF e0 e1 e2 e3 e4 e9 e14
  generalize s 61=u61
  generalize s 55=u55
  generalize s 62=u62
  generalize s 63=u63
  generalize s 10=u10
  generalize s 11=u11
  replace B:=Lib.hid (Below.go B.out hB);replace HK:=Lib.hid (HK.out.later hB);replace HQ:=Lib.hid (HQ.out.later hB)
  clear hB d s bl O6 HQ6
  obtain⟨i0,hi0,hz0,hz1,hz2⟩:=infoB_parts
  have IP0:=Lib.hid (And.intro hi0 (And.intro hz0 (And.intro hz1 hz2)))
  clear hi0 hz0 hz1 hz2
  go_upto_region 7 with fail
  refine wp_region_fun 17 (by kernel_rfl) (by kernel_rfl) rfl (fun s bl=>⟨#[.agg (cS kf b M).toArray,.agg (cA A0).toArray,.int .i64 z,.pointer (some ⟨D,0,none⟩),.pointer (some ⟨X,0,none⟩),undef,.bool false,.slice (some ⟨D2,o2,none⟩) N c,.int .i64 0,.int .i64 (k:Int),u10,u11,.int .i64 er6,s 13,s 14,s 15,undef,undef,undef,undef,.agg (cA A0).toArray,.agg (cA A).toArray,.tuple #[.slice (some ⟨D2,o2,none⟩) N c,.int .i64 0],.pointer (some ⟨D,0,none⟩),.agg (nums .u8 kf 32).toArray,.pointer (some ⟨D,32,none⟩),.agg (nums .u8 b 8).toArray,.pointer (some ⟨D,40,none⟩),.agg (cM M).toArray,.agg (cA A).toArray,.tuple #[.slice (some ⟨D2,o2,none⟩) N c,.int .i64 0],.slice (some ⟨D2,o2,none⟩) N c,.int .i64 0,.int .i64 0,.bool false,.bool false,.slice (some ⟨D2,o2,none⟩) N c,.int .i64 (N:Int),.bool false,.bool false,undef,undef,undef,undef,undef,.int .i64 z,.slice (some ⟨D2,o2,none⟩) N c,.int .i64 (N:Int),.int .i64 (Int.tmod z (N:Int)),.slice (some ⟨D2,o2,none⟩) N c,.int .i64 (N:Int),.int .i64 (Int.tmod z (N:Int)+(N:Int)),.slice (some ⟨D2,o2,none⟩) N c,.int .i64 (N:Int),.int .i64 (k:Int),u55,.pointer (some ⟨D,0,none⟩),.agg (nums .u8 kf 32).toArray,.slice (some ⟨D2,o2,none⟩) N c,.int .i64 (k:Int),.slice (some ⟨D2,o2,none⟩) k c,u61,u62,u63,.int .i64 er6,s 65,s 66,s 67,s 68,s 69,s 70,s 71,s 72,s 73,s 74,s 75,s 76,undef,undef,undef,undef,undef,undef,undef,undef,undef,undef,undef,undef,undef,undef,undef,undef,undef,undef,undef,undef,undef,undef,undef,undef,undef,undef,undef,undef,undef,undef,undef,undef,undef,undef,undef,undef,undef,undef,undef],[]⟩) (fun d s bl w=>(Below w6.heap.size w6 w)∧(d 0=true→s 66 = .pointer (some ⟨D,0,none⟩))∧(d 1=true→s 67=(.agg (nums .u8 kf 32).toArray))∧(d 2=true→s 68 = .slice (some ⟨(bl 2),0,none⟩) 0 0∧w6.heap.size≤bl 2)∧(d 2=true→bl 2<w.heap.size)∧(d 2=true→d 4=false→w.ownsRow w6.heap.size 5 1 (.slice (some ⟨(bl 2),0,none⟩) 0 0) 0 [])∧(d 3=true→s 69 = .slice (some ⟨D2,o2,none⟩) N c)∧(d 4=true→d 6=false→w.ownsRow w6.heap.size 5 1 (s 70) N (nums .u8 F N))∧(d 5=true→s 71 = .slice (some ⟨(bl 5),0,none⟩) 1 1∧w6.heap.size≤bl 5)∧(d 5=true→bl 5<w.heap.size)∧(d 5=true→d 6=false→Own (bl 5) [.int .u8 0] w)∧(d 6=true→d 7=false→∃ q cc,s 72 = .slice q (N+1) cc∧(N+1≤cc∧cc≤9223372036854775807)∧Byt w q (N+1) (putF F N))∧(d 7=true→∃ m Y,s 73 = .tuple #[.agg (cM m).toArray,.agg (cA Y).toArray,.int .i64 7])∧(d 8=true→∃ m Y,s 65 = .tuple #[.agg (cM m).toArray,.agg (cA Y).toArray,.int .i64 7])∧(d 9=true→∃ m,s 74 = .agg (cM m).toArray)∧(d 10=true→∃ Y,s 75 = .agg (cA Y).toArray)∧(d 11=true→s 76 = .int .i64 7)∧(d 12=true→s 13 = .pointer (some ⟨(bl 12),0,none⟩)∧w6.heap.size≤bl 12)∧(d 12=true→bl 12<w.heap.size)∧(d 12=true→d 14=false→Own (bl 12) (cM nilMn) w)∧(d 13=true→s 14 = .pointer (some ⟨(bl 13),0,none⟩)∧w6.heap.size≤bl 13)∧(d 13=true→bl 13<w.heap.size)∧(d 13=true→d 15=false→Own (bl 13) (cA (kinA 0)) w)∧(d 16=true→s 15 = .int .i64 7)∧(d 6=true→d 4=true)∧(d 2=true→d 5=true→bl 2≠bl 5)∧(d 2=true→d 12=true→bl 2≠bl 12)∧(d 2=true→d 13=true→bl 2≠bl 13)∧(d 12=true→d 13=true→bl 12≠bl 13)) rfl ?h0w7 (?stw7:StepsF _ _ _ _ 17 _ _ [0,1,2,3,4,5,6,7,8,9,10,11,12,13,14,15,16]) ?dnw7
  case h0w7=>exact⟨Below.drew (Below.refl _ _),(fun h=>nomatch h),(fun h=>nomatch h),(fun h=>nomatch h),(fun h=>nomatch h),(fun h=>nomatch h),(fun h=>nomatch h),(fun h=>nomatch h),(fun h=>nomatch h),(fun h=>nomatch h),(fun h=>nomatch h),(fun h=>nomatch h),(fun h=>nomatch h),(fun h=>nomatch h),(fun h=>nomatch h),(fun h=>nomatch h),(fun h=>nomatch h),(fun h=>nomatch h),(fun h=>nomatch h),(fun h=>nomatch h),(fun h=>nomatch h),(fun h=>nomatch h),(fun h=>nomatch h),(fun h=>nomatch h),(fun h=>nomatch h),(fun h=>nomatch h),(fun h=>nomatch h),(fun h=>nomatch h),(fun h=>nomatch h)⟩
  case stw7 =>
   refine StepsF.cons (o:=_) rfl (ws:=[]) (by kernel_rfl) (by decide) (fun d s bl w hF hd hw K_ hK=>?_) ?_
   ·have hB:Below w6.heap.size w6 w:=(p0_ hF.out)
    dsimp only
    go_simp
    exact hK.out (ups s 66 (.pointer (some ⟨D,0,none⟩))) bl _ ⟨hB,(fun _=>rfl),(p2_ hF.out),(p3_ hF.out),(p4_ hF.out),(p5_ hF.out),(p6_ hF.out),(p7_ hF.out),(p8_ hF.out),(p9_ hF.out),(p10_ hF.out),(p11_ hF.out),(p12_ hF.out),(p13_ hF.out),(p14_ hF.out),(p15_ hF.out),(p16_ hF.out),(p17_ hF.out),(p18_ hF.out),(p19_ hF.out),(p20_ hF.out),(p21_ hF.out),(p22_ hF.out),(p23_ hF.out),(p24_ hF.out),(p25_ hF.out),(p26_ hF.out),(p27_ hF.out),(q28_ hF.out)⟩
   refine StepsF.cons (o:=_) rfl (ws:=[0]) (by kernel_rfl) (by decide) (fun d s bl w hF hd hw K_ hK=>?_) ?_
   ·have hB:Below w6.heap.size w6 w:=(p0_ hF.out)
    have e0:s 66 = .pointer (some ⟨D,0,none⟩):=(p1_ hF.out) (hw 0 (by decide))
    refine step_load (by simp[Region.wanted]) 22 _ rfl D 0 e0 (nums .u8 kf 32) _ (HK.out.later hB).cell Tryz.underlying22 rfl (by kernel_rfl) ?_
    exact hK.out (ups s 67 ((.agg (nums .u8 kf 32).toArray))) bl _ ⟨hB,(p1_ hF.out),(fun _=>rfl),(p3_ hF.out),(p4_ hF.out),(p5_ hF.out),(p6_ hF.out),(p7_ hF.out),(p8_ hF.out),(p9_ hF.out),(p10_ hF.out),(p11_ hF.out),(p12_ hF.out),(p13_ hF.out),(p14_ hF.out),(p15_ hF.out),(p16_ hF.out),(p17_ hF.out),(p18_ hF.out),(p19_ hF.out),(p20_ hF.out),(p21_ hF.out),(p22_ hF.out),(p23_ hF.out),(p24_ hF.out),(p25_ hF.out),(p26_ hF.out),(p27_ hF.out),(q28_ hF.out)⟩
   refine StepsF.cons (o:=_) rfl (ws:=[]) (by kernel_rfl) (by decide) (fun d s bl w hF hd hw K_ hK=>?_) ?_
   ·have hB:Below w6.heap.size w6 w:=(p0_ hF.out)
    go_simp
    exact hK.out (ups s 68 (.slice (some ⟨w.heap.size,0,none⟩) 0 0)) (ups bl 2 w.heap.size) _ ⟨(hB.alloc hB.size _),(p1_ hF.out),(p2_ hF.out),(fun _=>⟨rfl,hB.size⟩),(fun _=>by show w.heap.size<(World.alloc _ _).heap.size;simp),(fun _ _=>World.ownsRow_lit w #[] 0 hB.size (by decide) rfl),(p6_ hF.out),(fun h0 h1=>row_later ((p7_ hF.out) h0 h1) (Below.al (Below.refl _ _))),(p8_ hF.out),(fun h0=>Nat.lt_of_lt_of_le ((p9_ hF.out) h0) (Below.al (Below.refl _ _)).size),(fun h0 h1=>((p10_ hF.out) h0 h1).alloc),(fun h0 h1=>(match ((p11_ hF.out) h0 h1) with | ⟨q_,c_,e_,h_,y_⟩=>⟨q_,c_,e_,h_,y_.later (Below.al (Below.refl _ _))⟩)),(p12_ hF.out),(p13_ hF.out),(p14_ hF.out),(p15_ hF.out),(p16_ hF.out),(p17_ hF.out),(fun h0=>Nat.lt_of_lt_of_le ((p18_ hF.out) h0) (Below.al (Below.refl _ _)).size),(fun h0 h1=>((p19_ hF.out) h0 h1).alloc),(p20_ hF.out),(fun h0=>Nat.lt_of_lt_of_le ((p21_ hF.out) h0) (Below.al (Below.refl _ _)).size),(fun h0 h1=>((p22_ hF.out) h0 h1).alloc),(p23_ hF.out),(p24_ hF.out),(fun _ h=>Nat.ne_of_gt ((p9_ hF.out) h)),(fun _ h=>Nat.ne_of_gt ((p18_ hF.out) h)),(fun _ h=>Nat.ne_of_gt ((p21_ hF.out) h)),(q28_ hF.out)⟩
   refine StepsF.cons (o:=_) rfl (ws:=[]) (by kernel_rfl) (by decide) (fun d s bl w hF hd hw K_ hK=>?_) ?_
   ·have hB:Below w6.heap.size w6 w:=(p0_ hF.out)
    dsimp only
    go_simp
    exact hK.out (ups s 69 (.slice (some ⟨D2,o2,none⟩) N c)) bl _ ⟨hB,(p1_ hF.out),(p2_ hF.out),(p3_ hF.out),(p4_ hF.out),(p5_ hF.out),(fun _=>rfl),(p7_ hF.out),(p8_ hF.out),(p9_ hF.out),(p10_ hF.out),(p11_ hF.out),(p12_ hF.out),(p13_ hF.out),(p14_ hF.out),(p15_ hF.out),(p16_ hF.out),(p17_ hF.out),(p18_ hF.out),(p19_ hF.out),(p20_ hF.out),(p21_ hF.out),(p22_ hF.out),(p23_ hF.out),(p24_ hF.out),(p25_ hF.out),(p26_ hF.out),(p27_ hF.out),(q28_ hF.out)⟩
   refine StepsF.cons (o:=_) rfl (ws:=[2,3]) (by kernel_rfl) (by decide) (fun d s bl w hF hd hw K_ hK=>?_) ?_
   ·have hB:Below w6.heap.size w6 w:=(p0_ hF.out)
    have e2:s 68 = .slice (some ⟨(bl 2),0,none⟩) 0 0:=((p3_ hF.out) (hw 2 (by decide))).1
    have le2:=((p3_ hF.out) (hw 2 (by decide))).2
    have e3:s 69 = .slice (some ⟨D2,o2,none⟩) N c:=(p6_ hF.out) (hw 3 (by decide))
    have go:=((p5_ hF.out) (hw 2 (by decide)) hd)
    refine step_append_to rfl _ _ 47 rfl 5 i0 (.int .u8 0) 1 1 Tryz.underlying47 IP0.out.1 IP0.out.2.1 IP0.out.2.2.1 IP0.out.2.2.2 rfl (by decide) w6.heap.size (.slice (some ⟨bl 2,0,none⟩) 0 0) 0 [] e2 go ⟨D2,o2,none⟩ N c (nums .u8 F N) e3 (by rw[nums_length,Nat.mul_one]) (fun j u hj=>by rw[Addr.add_mid];exact (HQ.out.later hB).cell j u hj) (nums_one _ _ _) (by have:=NN.out;unfold maxLen;omega) (by have:=NN.out;omega) hB.size ?_
    intro v' w1 hown hg
    rw[Nat.zero_add,List.nil_append] at hown
    exact hK.out (ups s 70 (v')) bl _ ⟨(Below.gro hB hg go (Nat.le_refl _)),(p1_ hF.out),(p2_ hF.out),(p3_ hF.out),(fun h0=>Nat.lt_of_lt_of_le ((p4_ hF.out) h0) hg.size),(fun _ h=>nomatch h),(p6_ hF.out),(fun _ _=>hown),(p8_ hF.out),(fun h0=>Nat.lt_of_lt_of_le ((p9_ hF.out) h0) hg.size),(fun h0 h1=>((p10_ hF.out) h0 h1).grown hg (fun h=>(p25_ hF.out) (hw 2 (by decide)) h0 (Option.some.inj h))),(fun h0 _=>absurd ((p24_ hF.out) h0) (by simp[hd])),(p12_ hF.out),(p13_ hF.out),(p14_ hF.out),(p15_ hF.out),(p16_ hF.out),(p17_ hF.out),(fun h0=>Nat.lt_of_lt_of_le ((p18_ hF.out) h0) hg.size),(fun h0 h1=>((p19_ hF.out) h0 h1).grown hg (fun h=>(p26_ hF.out) (hw 2 (by decide)) h0 (Option.some.inj h))),(p20_ hF.out),(fun h0=>Nat.lt_of_lt_of_le ((p21_ hF.out) h0) hg.size),(fun h0 h1=>((p22_ hF.out) h0 h1).grown hg (fun h=>(p27_ hF.out) (hw 2 (by decide)) h0 (Option.some.inj h))),(p23_ hF.out),(fun _=>rfl),(p25_ hF.out),(p26_ hF.out),(p27_ hF.out),(q28_ hF.out)⟩
   refine StepsF.cons (o:=_) rfl (ws:=[]) (by kernel_rfl) (by decide) (fun d s bl w hF hd hw K_ hK=>?_) ?_
   ·have hB:Below w6.heap.size w6 w:=(p0_ hF.out)
    go_simp
    exact hK.out (ups s 71 (.slice (some ⟨w.heap.size,0,none⟩) 1 1)) (ups bl 5 w.heap.size) _ ⟨(hB.alloc hB.size _),(p1_ hF.out),(p2_ hF.out),(p3_ hF.out),(fun h0=>Nat.lt_of_lt_of_le ((p4_ hF.out) h0) (Below.al (Below.refl _ _)).size),(fun h0 h1=>row_later ((p5_ hF.out) h0 h1) (Below.al (Below.refl _ _))),(p6_ hF.out),(fun h0 h1=>row_later ((p7_ hF.out) h0 h1) (Below.al (Below.refl _ _))),(fun _=>⟨rfl,hB.size⟩),(fun _=>by show w.heap.size<(World.alloc _ _).heap.size;simp),(fun _ _=>Own.newAt rfl),(fun h0 h1=>(match ((p11_ hF.out) h0 h1) with | ⟨q_,c_,e_,h_,y_⟩=>⟨q_,c_,e_,h_,y_.later (Below.al (Below.refl _ _))⟩)),(p12_ hF.out),(p13_ hF.out),(p14_ hF.out),(p15_ hF.out),(p16_ hF.out),(p17_ hF.out),(fun h0=>Nat.lt_of_lt_of_le ((p18_ hF.out) h0) (Below.al (Below.refl _ _)).size),(fun h0 h1=>((p19_ hF.out) h0 h1).alloc),(p20_ hF.out),(fun h0=>Nat.lt_of_lt_of_le ((p21_ hF.out) h0) (Below.al (Below.refl _ _)).size),(fun h0 h1=>((p22_ hF.out) h0 h1).alloc),(p23_ hF.out),(p24_ hF.out),(fun h _=>Nat.ne_of_lt ((p4_ hF.out) h)),(p26_ hF.out),(p27_ hF.out),(q28_ hF.out)⟩
   refine StepsF.cons (o:=_) rfl (ws:=[4,5,4]) (by kernel_rfl) (by decide) (fun d s bl w hF hd hw K_ hK=>?_) ?_
   ·have hB:Below w6.heap.size w6 w:=(p0_ hF.out)
    have e5:s 71 = .slice (some ⟨(bl 5),0,none⟩) 1 1:=((p8_ hF.out) (hw 5 (by decide))).1
    have le5:=((p8_ hF.out) (hw 5 (by decide))).2
    have go:=((p7_ hF.out) (hw 4 (by decide)) hd)
    have nb:=((p10_ hF.out) (hw 5 (by decide)) hd)
    refine step_append_to rfl _ _ 47 rfl 5 i0 (.int .u8 0) 1 1 Tryz.underlying47 IP0.out.1 IP0.out.2.1 IP0.out.2.2.1 IP0.out.2.2.2 rfl (by decide) w6.heap.size (s 70) N (nums .u8 F N) rfl go ⟨bl 5,0,none⟩ 1 1 [.int .u8 0] e5 rfl nb.news (by simp[Value.oneCell']) (by have:=NN.out;unfold maxLen;omega) (by have:=NN.out;omega) hB.size ?_
    intro v' w1 hown hg
    obtain⟨q7,c7,rfl,_⟩:=row_form hown
    have hc7:=row_cap_ hown
    rw[putF_nums] at hown
    have hy7:=(byt_row hown).2
    exact hK.out (ups s 72 (.slice q7 (N+1) c7)) bl _ ⟨(Below.gro hB hg go (Nat.le_refl _)),(p1_ hF.out),(p2_ hF.out),(p3_ hF.out),(fun h0=>Nat.lt_of_lt_of_le ((p4_ hF.out) h0) hg.size),(fun _ h=>absurd (hw 4 (by decide)) (by have h2:d 4=false:=h;simp[h2])),(p6_ hF.out),(fun _ h=>nomatch h),(p8_ hF.out),(fun h0=>Nat.lt_of_lt_of_le ((p9_ hF.out) h0) hg.size),(fun _ h=>nomatch h),(fun _ _=>⟨q7,c7,rfl,hc7,hy7⟩),(p12_ hF.out),(p13_ hF.out),(p14_ hF.out),(p15_ hF.out),(p16_ hF.out),(p17_ hF.out),(fun h0=>Nat.lt_of_lt_of_le ((p18_ hF.out) h0) hg.size),(fun h0 h1=>((p19_ hF.out) h0 h1).grown hg (row_apart8 go (by have:=NN.out;omega) ((p19_ hF.out) h0 h1) (fun z h=>by cases h))),(p20_ hF.out),(fun h0=>Nat.lt_of_lt_of_le ((p21_ hF.out) h0) hg.size),(fun h0 h1=>((p22_ hF.out) h0 h1).grown hg (row_apart8 go (by have:=NN.out;omega) ((p22_ hF.out) h0 h1) (fun z h=>by cases h))),(p23_ hF.out),(fun _=>hw 4 (by decide)),(p25_ hF.out),(p26_ hF.out),(p27_ hF.out),(q28_ hF.out)⟩
   refine StepsF.cons (o:=_) rfl (ws:=[1,6,6]) (by kernel_rfl) (by decide) (fun d s bl w hF hd hw K_ hK=>?_) ?_
   ·have hB:Below w6.heap.size w6 w:=(p0_ hF.out)
    have e1:s 67=(.agg (nums .u8 kf 32).toArray):=(p2_ hF.out) (hw 1 (by decide))
    obtain⟨q7,c7,e6,hc7,hy7⟩:=((p11_ hF.out) (hw 6 (by decide)) hd)
    dsimp only
    go_simp
    go_at_call 18
    refine (O7.out q7 c7 hc7.1 hc7.2 _ (HG.out.later (Below.go B.out hB)) (Hg.out.later (Below.go B.out hB)) hy7).mono ?_
    rintro e w1 ⟨m,Y,rfl,hb⟩
    exact hK.out (ups (ups (ups s 67 ((.agg (nums .u8 kf 32).toArray))) 72 (.slice q7 (N+1) c7)) 73 (.tuple #[.agg (cM m).toArray,.agg (cA Y).toArray,.int .i64 7])) bl _ ⟨(Below.go hB hb),(p1_ hF.out),(fun _=>rfl),(p3_ hF.out),(fun h0=>Nat.lt_of_lt_of_le ((p4_ hF.out) h0) hb.size),(fun h0 h1=>row_later ((p5_ hF.out) h0 h1) hb),(p6_ hF.out),(fun _ h=>absurd (hw 6 (by decide)) (by have h2:d 6=false:=h;simp[h2])),(p8_ hF.out),(fun h0=>Nat.lt_of_lt_of_le ((p9_ hF.out) h0) hb.size),(fun _ h=>absurd (hw 6 (by decide)) (by have h2:d 6=false:=h;simp[h2])),(fun _ h=>nomatch h),(fun _=>⟨m,Y,rfl⟩),(p13_ hF.out),(p14_ hF.out),(p15_ hF.out),(p16_ hF.out),(p17_ hF.out),(fun h0=>Nat.lt_of_lt_of_le ((p18_ hF.out) h0) hb.size),(fun h0 h1=>((p19_ hF.out) h0 h1).later hb),(p20_ hF.out),(fun h0=>Nat.lt_of_lt_of_le ((p21_ hF.out) h0) hb.size),(fun h0 h1=>((p22_ hF.out) h0 h1).later hb),(p23_ hF.out),(p24_ hF.out),(p25_ hF.out),(p26_ hF.out),(p27_ hF.out),(q28_ hF.out)⟩
   refine StepsF.cons (o:=_) rfl (ws:=[7]) (by kernel_rfl) (by decide) (fun d s bl w hF hd hw K_ hK=>?_) ?_
   ·have hB:Below w6.heap.size w6 w:=(p0_ hF.out)
    obtain⟨m7,Y7,e7⟩:=(p12_ hF.out) (hw 7 (by decide))
    dsimp only
    go_simp
    exact hK.out (ups (ups s 73 (.tuple #[.agg (cM m7).toArray,.agg (cA Y7).toArray,.int .i64 7])) 65 (.tuple #[.agg (cM m7).toArray,.agg (cA Y7).toArray,.int .i64 7])) bl _ ⟨hB,(p1_ hF.out),(p2_ hF.out),(p3_ hF.out),(p4_ hF.out),(p5_ hF.out),(p6_ hF.out),(p7_ hF.out),(p8_ hF.out),(p9_ hF.out),(p10_ hF.out),(fun _ h=>absurd (hw 7 (by decide)) (by have h2:d 7=false:=h;simp[h2])),(fun _=>⟨m7,Y7,rfl⟩),(fun _=>⟨m7,Y7,rfl⟩),(p14_ hF.out),(p15_ hF.out),(p16_ hF.out),(p17_ hF.out),(p18_ hF.out),(p19_ hF.out),(p20_ hF.out),(p21_ hF.out),(p22_ hF.out),(p23_ hF.out),(p24_ hF.out),(p25_ hF.out),(p26_ hF.out),(p27_ hF.out),(q28_ hF.out)⟩
   refine StepsF.cons (o:=_) rfl (ws:=[8]) (by kernel_rfl) (by decide) (fun d s bl w hF hd hw K_ hK=>?_) ?_
   ·have hB:Below w6.heap.size w6 w:=(p0_ hF.out)
    obtain⟨m8,Y8,e8⟩:=(p13_ hF.out) (hw 8 (by decide))
    dsimp only
    go_simp
    exact hK.out (ups (ups s 65 (.tuple #[.agg (cM m8).toArray,.agg (cA Y8).toArray,.int .i64 7])) 74 (.agg (cM m8).toArray)) bl _ ⟨hB,(p1_ hF.out),(p2_ hF.out),(p3_ hF.out),(p4_ hF.out),(p5_ hF.out),(p6_ hF.out),(p7_ hF.out),(p8_ hF.out),(p9_ hF.out),(p10_ hF.out),(p11_ hF.out),(p12_ hF.out),(fun _=>⟨m8,Y8,rfl⟩),(fun _=>⟨m8,rfl⟩),(p15_ hF.out),(p16_ hF.out),(p17_ hF.out),(p18_ hF.out),(p19_ hF.out),(p20_ hF.out),(p21_ hF.out),(p22_ hF.out),(p23_ hF.out),(p24_ hF.out),(p25_ hF.out),(p26_ hF.out),(p27_ hF.out),(q28_ hF.out)⟩
   refine StepsF.cons (o:=_) rfl (ws:=[8]) (by kernel_rfl) (by decide) (fun d s bl w hF hd hw K_ hK=>?_) ?_
   ·have hB:Below w6.heap.size w6 w:=(p0_ hF.out)
    obtain⟨m8,Y8,e8⟩:=(p13_ hF.out) (hw 8 (by decide))
    dsimp only
    go_simp
    exact hK.out (ups (ups s 65 (.tuple #[.agg (cM m8).toArray,.agg (cA Y8).toArray,.int .i64 7])) 75 (.agg (cA Y8).toArray)) bl _ ⟨hB,(p1_ hF.out),(p2_ hF.out),(p3_ hF.out),(p4_ hF.out),(p5_ hF.out),(p6_ hF.out),(p7_ hF.out),(p8_ hF.out),(p9_ hF.out),(p10_ hF.out),(p11_ hF.out),(p12_ hF.out),(fun _=>⟨m8,Y8,rfl⟩),(p14_ hF.out),(fun _=>⟨Y8,rfl⟩),(p16_ hF.out),(p17_ hF.out),(p18_ hF.out),(p19_ hF.out),(p20_ hF.out),(p21_ hF.out),(p22_ hF.out),(p23_ hF.out),(p24_ hF.out),(p25_ hF.out),(p26_ hF.out),(p27_ hF.out),(q28_ hF.out)⟩
   refine StepsF.cons (o:=_) rfl (ws:=[8]) (by kernel_rfl) (by decide) (fun d s bl w hF hd hw K_ hK=>?_) ?_
   ·have hB:Below w6.heap.size w6 w:=(p0_ hF.out)
    obtain⟨m8,Y8,e8⟩:=(p13_ hF.out) (hw 8 (by decide))
    dsimp only
    go_simp
    exact hK.out (ups (ups s 65 (.tuple #[.agg (cM m8).toArray,.agg (cA Y8).toArray,.int .i64 7])) 76 (.int .i64 7)) bl _ ⟨hB,(p1_ hF.out),(p2_ hF.out),(p3_ hF.out),(p4_ hF.out),(p5_ hF.out),(p6_ hF.out),(p7_ hF.out),(p8_ hF.out),(p9_ hF.out),(p10_ hF.out),(p11_ hF.out),(p12_ hF.out),(fun _=>⟨m8,Y8,rfl⟩),(p14_ hF.out),(p15_ hF.out),(fun _=>rfl),(p17_ hF.out),(p18_ hF.out),(p19_ hF.out),(p20_ hF.out),(p21_ hF.out),(p22_ hF.out),(p23_ hF.out),(p24_ hF.out),(p25_ hF.out),(p26_ hF.out),(p27_ hF.out),(q28_ hF.out)⟩
   refine StepsF.cons (o:=_) rfl (ws:=[]) (by kernel_rfl) (by decide) (fun d s bl w hF hd hw K_ hK=>?_) ?_
   ·have hB:Below w6.heap.size w6 w:=(p0_ hF.out)
    go_simp
    exact hK.out (ups s 13 (.pointer (some ⟨w.heap.size,0,none⟩))) (ups bl 12 w.heap.size) _ ⟨(hB.alloc hB.size _),(p1_ hF.out),(p2_ hF.out),(p3_ hF.out),(fun h0=>Nat.lt_of_lt_of_le ((p4_ hF.out) h0) (Below.al (Below.refl _ _)).size),(fun h0 h1=>row_later ((p5_ hF.out) h0 h1) (Below.al (Below.refl _ _))),(p6_ hF.out),(fun h0 h1=>row_later ((p7_ hF.out) h0 h1) (Below.al (Below.refl _ _))),(p8_ hF.out),(fun h0=>Nat.lt_of_lt_of_le ((p9_ hF.out) h0) (Below.al (Below.refl _ _)).size),(fun h0 h1=>((p10_ hF.out) h0 h1).alloc),(fun h0 h1=>(match ((p11_ hF.out) h0 h1) with | ⟨q_,c_,e_,h_,y_⟩=>⟨q_,c_,e_,h_,y_.later (Below.al (Below.refl _ _))⟩)),(p12_ hF.out),(p13_ hF.out),(p14_ hF.out),(p15_ hF.out),(p16_ hF.out),(fun _=>⟨rfl,hB.size⟩),(fun _=>by show w.heap.size<(World.alloc _ _).heap.size;simp),(fun _ _=>Own.newAt rfl),(p20_ hF.out),(fun h0=>Nat.lt_of_lt_of_le ((p21_ hF.out) h0) (Below.al (Below.refl _ _)).size),(fun h0 h1=>((p22_ hF.out) h0 h1).alloc),(p23_ hF.out),(p24_ hF.out),(p25_ hF.out),(fun h _=>Nat.ne_of_lt ((p4_ hF.out) h)),(p27_ hF.out),(fun _ h=>Nat.ne_of_gt ((p21_ hF.out) h))⟩
   refine StepsF.cons (o:=_) rfl (ws:=[]) (by kernel_rfl) (by decide) (fun d s bl w hF hd hw K_ hK=>?_) ?_
   ·have hB:Below w6.heap.size w6 w:=(p0_ hF.out)
    go_simp
    exact hK.out (ups s 14 (.pointer (some ⟨w.heap.size,0,none⟩))) (ups bl 13 w.heap.size) _ ⟨(hB.alloc hB.size _),(p1_ hF.out),(p2_ hF.out),(p3_ hF.out),(fun h0=>Nat.lt_of_lt_of_le ((p4_ hF.out) h0) (Below.al (Below.refl _ _)).size),(fun h0 h1=>row_later ((p5_ hF.out) h0 h1) (Below.al (Below.refl _ _))),(p6_ hF.out),(fun h0 h1=>row_later ((p7_ hF.out) h0 h1) (Below.al (Below.refl _ _))),(p8_ hF.out),(fun h0=>Nat.lt_of_lt_of_le ((p9_ hF.out) h0) (Below.al (Below.refl _ _)).size),(fun h0 h1=>((p10_ hF.out) h0 h1).alloc),(fun h0 h1=>(match ((p11_ hF.out) h0 h1) with | ⟨q_,c_,e_,h_,y_⟩=>⟨q_,c_,e_,h_,y_.later (Below.al (Below.refl _ _))⟩)),(p12_ hF.out),(p13_ hF.out),(p14_ hF.out),(p15_ hF.out),(p16_ hF.out),(p17_ hF.out),(fun h0=>Nat.lt_of_lt_of_le ((p18_ hF.out) h0) (Below.al (Below.refl _ _)).size),(fun h0 h1=>((p19_ hF.out) h0 h1).alloc),(fun _=>⟨rfl,hB.size⟩),(fun _=>by show w.heap.size<(World.alloc _ _).heap.size;simp),(fun _ _=>Own.newAt rfl),(p23_ hF.out),(p24_ hF.out),(p25_ hF.out),(p26_ hF.out),(fun h _=>Nat.ne_of_lt ((p4_ hF.out) h)),(fun h _=>Nat.ne_of_lt ((p18_ hF.out) h))⟩
   refine StepsF.cons (o:=_) rfl (ws:=[12,9,7,0,1,2,3,4,5,6,7,8,9,12,13]) (by kernel_rfl) (by decide) (fun d s bl w hF hd hw K_ hK=>?_) ?_
   ·have hB:Below w6.heap.size w6 w:=(p0_ hF.out)
    obtain⟨m9,e9⟩:=(p14_ hF.out) (hw 9 (by decide))
    have e12:s 13 = .pointer (some ⟨(bl 12),0,none⟩):=((p17_ hF.out) (hw 12 (by decide))).1
    have le12:=((p17_ hF.out) (hw 12 (by decide))).2
    have oX:=(p19_ hF.out) (hw 12 (by decide)) hd
    dsimp only
    rw[e12,e9]
    rw[if_pos]
    rotate_left
    ·simp[Region.wanted]
    refine wp_store_mid 27 _ _ rfl (bl 12) 0 ((cM m9)).toArray rfl rfl (freeM oX) (by kernel_rfl) (cM_one _) ?_
    exact hK.out (ups (ups s 74 (.agg (cM m9).toArray)) 13 (.pointer (some ⟨(bl 12),0,none⟩))) bl _ ⟨(Below.setCells hB le12 ((cM m9)) 0),(p1_ hF.out),(p2_ hF.out),(p3_ hF.out),(fun h0=>(by rw[size_setCells];exact ((p4_ hF.out) h0))),(fun _ h=>absurd (hw 4 (by decide)) (by have h2:d 4=false:=h;simp[h2])),(p6_ hF.out),(fun _ h=>absurd (hw 6 (by decide)) (by have h2:d 6=false:=h;simp[h2])),(p8_ hF.out),(fun h0=>(by rw[size_setCells];exact ((p9_ hF.out) h0))),(fun _ h=>absurd (hw 6 (by decide)) (by have h2:d 6=false:=h;simp[h2])),(fun _ h=>absurd (hw 7 (by decide)) (by have h2:d 7=false:=h;simp[h2])),(p12_ hF.out),(p13_ hF.out),(fun _=>⟨m9,rfl⟩),(p15_ hF.out),(p16_ hF.out),(fun _=>⟨rfl,le12⟩),(fun h0=>(by rw[size_setCells];exact ((p18_ hF.out) h0))),(fun _ h=>nomatch h),(p20_ hF.out),(fun h0=>(by rw[size_setCells];exact ((p21_ hF.out) h0))),(fun h0 h1=>Own.far (o:=0) (vs:=(cM m9)) ((p22_ hF.out) h0 h1) ((q28_ hF.out) (hw 12 (by decide)) h0).symm),(p23_ hF.out),(p24_ hF.out),(p25_ hF.out),(p26_ hF.out),(p27_ hF.out),(q28_ hF.out)⟩
   refine StepsF.cons (o:=_) rfl (ws:=[13,10,14,0,1,2,3,4,5,6,7,8,9,10,12,13,14]) (by kernel_rfl) (by decide) (fun d s bl w hF hd hw K_ hK=>?_) ?_
   ·have hB:Below w6.heap.size w6 w:=(p0_ hF.out)
    obtain⟨Y10,e10⟩:=(p15_ hF.out) (hw 10 (by decide))
    have e13:s 14 = .pointer (some ⟨(bl 13),0,none⟩):=((p20_ hF.out) (hw 13 (by decide))).1
    have le13:=((p20_ hF.out) (hw 13 (by decide))).2
    have oX:=(p22_ hF.out) (hw 13 (by decide)) hd
    dsimp only
    rw[e13,e10]
    rw[if_pos]
    rotate_left
    ·simp[Region.wanted]
    refine wp_store_mid 45 _ _ rfl (bl 13) 0 ((cA Y10)).toArray rfl rfl (freeA oX) (by kernel_rfl) (cA_one _) ?_
    exact hK.out (ups (ups s 75 (.agg (cA Y10).toArray)) 14 (.pointer (some ⟨(bl 13),0,none⟩))) bl _ ⟨(Below.setCells hB le13 ((cA Y10)) 0),(p1_ hF.out),(p2_ hF.out),(p3_ hF.out),(fun h0=>(by rw[size_setCells];exact ((p4_ hF.out) h0))),(fun _ h=>absurd (hw 4 (by decide)) (by have h2:d 4=false:=h;simp[h2])),(p6_ hF.out),(fun _ h=>absurd (hw 6 (by decide)) (by have h2:d 6=false:=h;simp[h2])),(p8_ hF.out),(fun h0=>(by rw[size_setCells];exact ((p9_ hF.out) h0))),(fun _ h=>absurd (hw 6 (by decide)) (by have h2:d 6=false:=h;simp[h2])),(fun _ h=>absurd (hw 7 (by decide)) (by have h2:d 7=false:=h;simp[h2])),(p12_ hF.out),(p13_ hF.out),(p14_ hF.out),(fun _=>⟨Y10,rfl⟩),(p16_ hF.out),(p17_ hF.out),(fun h0=>(by rw[size_setCells];exact ((p18_ hF.out) h0))),(fun _ h=>absurd (hw 14 (by decide)) (by have h2:d 14=false:=h;simp[h2])),(fun _=>⟨rfl,le13⟩),(fun h0=>(by rw[size_setCells];exact ((p21_ hF.out) h0))),(fun _ h=>nomatch h),(p23_ hF.out),(p24_ hF.out),(p25_ hF.out),(p26_ hF.out),(p27_ hF.out),(q28_ hF.out)⟩
   refine StepsF.cons (o:=_) rfl (ws:=[11,15,0,1,2,3,4,5,6,7,8,9,10,11,12,13,14,15]) (by kernel_rfl) (by decide) (fun d s bl w hF hd hw K_ hK=>?_) ?_
   ·have hB:Below w6.heap.size w6 w:=(p0_ hF.out)
    have e11:s 76 = .int .i64 7:=(p16_ hF.out) (hw 11 (by decide))
    dsimp only
    go_simp
    exact hK.out (ups (ups s 76 (.int .i64 7)) 15 (.int .i64 7)) bl _ ⟨hB,(p1_ hF.out),(p2_ hF.out),(p3_ hF.out),(p4_ hF.out),(fun _ h=>absurd (hw 4 (by decide)) (by have h2:d 4=false:=h;simp[h2])),(p6_ hF.out),(fun _ h=>absurd (hw 6 (by decide)) (by have h2:d 6=false:=h;simp[h2])),(p8_ hF.out),(p9_ hF.out),(fun _ h=>absurd (hw 6 (by decide)) (by have h2:d 6=false:=h;simp[h2])),(fun _ h=>absurd (hw 7 (by decide)) (by have h2:d 7=false:=h;simp[h2])),(p12_ hF.out),(p13_ hF.out),(p14_ hF.out),(p15_ hF.out),(fun _=>rfl),(p17_ hF.out),(p18_ hF.out),(fun _ h=>absurd (hw 14 (by decide)) (by have h2:d 14=false:=h;simp[h2])),(p20_ hF.out),(p21_ hF.out),(fun _ h=>absurd (hw 15 (by decide)) (by have h2:d 15=false:=h;simp[h2])),(fun _=>rfl),(p24_ hF.out),(p25_ hF.out),(p26_ hF.out),(p27_ hF.out),(q28_ hF.out)⟩
   exact StepsF.nil
  intro d s bl w7 hF hall
  replace hF:=Lib.hid hF
  have hB:Below w6.heap.size w6 w7:=(p0_ hF.out)
  try dsimp only
  have e0:s 66 = .pointer (some ⟨D,0,none⟩):=(p1_ hF.out) (hall 0 (by decide))
  have e1:s 67=(.agg (nums .u8 kf 32).toArray):=(p2_ hF.out) (hall 1 (by decide))
  have e3:s 69 = .slice (some ⟨D2,o2,none⟩) N c:=(p6_ hF.out) (hall 3 (by decide))
  have e11:s 76 = .int .i64 7:=(p16_ hF.out) (hall 11 (by decide))
  have e16:s 15 = .int .i64 7:=(p23_ hF.out) (hall 16 (by decide))
  rw[e0,e1,e3,e11,e16]
  clear hall hF e0 e1 e3 e11 e16
  generalize s 68=u68
  generalize s 70=u70
  generalize s 71=u71
  generalize s 72=u72
  generalize s 73=u73
  generalize s 65=u65
  generalize s 74=u74
  generalize s 75=u75
  generalize s 13=u13
  generalize s 14=u14
  replace B:=Lib.hid (Below.go B.out hB);replace HK:=Lib.hid (HK.out.later hB);replace HQ:=Lib.hid (HQ.out.later hB)
  clear hB d s bl O7
  have d6:(er6 == 0)=false:=by have:=N6.out;simpa using this
  have d6n:er6≠0:=N6.out
  by_cases h6:N<615
  ·have g6:decide ((N:Int)<615)=true:=decide_eq_true (by omega)
   go_wp2_with (fail)
   go_at_call 15
   refine (WK.out _ (HG.out.later B.out) (Hg.out.later B.out)).mono ?_
   rintro e w8 ⟨rfl,hb⟩
   replace B:=Lib.hid (Below.go B.out hb)
   clear hb
   go_wp2_with (fail)
   go_ret
   exact⟨rfl,B.out⟩
  ·have g6:decide ((N:Int)<615)=false:=decide_eq_false (by omega)
   have g6n:¬ ((N:Int)<615):=by omega
   have C1:=CC.out;have N1:=NN.out
   have n63:(63:Int)≤(c:Int):=by omega
   have n339:(339:Int)≤(c:Int):=by omega
   have n615:(615:Int)≤(c:Int):=by omega
   have n616:(615:Int)≤(N:Int):=by omega
   have nN:(N:Int)≤(c:Int):=by omega
   have m63:c≠63:=by omega
   have m339:c≠339:=by omega
   have hQ:=HQ.out
   have H0:=Lib.hid (show Byt w7 (some ⟨D2,o2,none⟩) 63 (swF F) from byt_as_ (.inr ⟨D2,o2,rfl,has_take hQ (by omega)⟩) fun j hj=>(sw_0 F hj).symm)
   have H1:=Lib.hid (show Byt w7 (some ⟨D2,o2+339,none⟩) 276 (fun j=>swF F (63+j)) from byt_as_ (.inr ⟨D2,o2+339,rfl,has_drop (i:=339) hQ (by omega)⟩) fun j hj=>(sw_1 F hj).symm)
   have H2:=Lib.hid (show Byt w7 (some ⟨D2,o2+63,none⟩) 276 (fun j=>swF F (63+276+j)) from byt_as_ (.inr ⟨D2,o2+63,rfl,has_drop (i:=63) hQ (by omega)⟩) fun j hj=>(sw_2 F hj).symm)
   have H3:=Lib.hid (show Byt w7 (q615 D2 o2 c 1) (N - 615) (fun j=>swF F (63+276+276+j)) from byt_as_ (byt615 hQ (by omega) (by omega)) fun j hj=>(sw_3 F j).symm)
   have Z7:=Lib.hid (Below.refl w7.heap.size w7)
   clear C1 N1 hQ
   go_upto_region 13 with fail
   go_upto_region 14 with (at_builtin;refine wpList_append_b rfl _ _ rfl w7.heap.size _ 0 [] rfl (⟨rfl,.inl ⟨rfl,rfl⟩⟩:w7.ownsRow w7.heap.size 5 1 (.slice none 0 0) 0 []) (some ⟨D2,o2,none⟩) 63 c (swF F) rfl (H0.out.later Z7.out) (by have:=NN.out;omega) Z7.out.size ?_;intro v' w8 hrow hgr;have hz_:=Below.gro Z7.out hgr (⟨rfl,.inl ⟨rfl,rfl⟩⟩:w7.ownsRow w7.heap.size 5 1 (.slice none 0 0) 0 []) (Nat.le_refl _);replace Z7:=Lib.hid hz_;obtain⟨pw8,cw8,rfl,_⟩:=row_form hrow;rw[Nat.zero_add,List.nil_append] at hrow;have R8:=Lib.hid hrow;clear hrow hgr hz_)
   go_upto_region 15 with (at_builtin;refine wpList_append_b rfl _ _ rfl w7.heap.size _ 63 (nums .u8 (swF F) 63) rfl R8.out (some ⟨D2,o2+339,none⟩) 276 (c - 339) (fun j=>swF F (63+j)) rfl (H1.out.later Z7.out) (by have:=NN.out;omega) Z7.out.size ?_;intro v' w9 hrow hgr;have hz_:=Below.gro Z7.out hgr R8.out (Nat.le_refl _);replace Z7:=Lib.hid hz_;obtain⟨pw9,cw9,rfl,_⟩:=row_form hrow;rw[nums_join] at hrow;have R9:=Lib.hid hrow;clear hrow hgr hz_)
   go_upto_region 16 with (at_builtin;refine wpList_append_b rfl _ _ rfl w7.heap.size _ (63+276) (nums .u8 (swF F) (63+276)) rfl R9.out (some ⟨D2,o2+63,none⟩) 276 (c - 63) (fun j=>swF F (63+276+j)) rfl (H2.out.later Z7.out) (by have:=NN.out;omega) Z7.out.size ?_;intro v' w10 hrow hgr;have hz_:=Below.gro Z7.out hgr R9.out (Nat.le_refl _);replace Z7:=Lib.hid hz_;obtain⟨pw10,cw10,rfl,_⟩:=row_form hrow;rw[nums_join] at hrow;have R10:=Lib.hid hrow;clear hrow hgr hz_)
   go_upto_region 17 with (at_builtin;refine wpList_append_b rfl _ _ rfl w7.heap.size _ (63+276+276) (nums .u8 (swF F) (63+276+276)) rfl R10.out (q615 D2 o2 c 1) (N - 615) (c - 615) (fun j=>swF F (63+276+276+j)) rfl (H3.out.later Z7.out) (by have:=NN.out;omega) Z7.out.size ?_;intro v' w11 hrow hgr;have hz_:=Below.gro Z7.out hgr R10.out (Nat.le_refl _);replace Z7:=Lib.hid hz_;obtain⟨pw11,cw11,rfl,_⟩:=row_form hrow;rw[nums_join] at hrow;have R11:=Lib.hid hrow;clear hrow hgr hz_)
   replace B:=Lib.hid (Below.go B.out Z7.out);replace HK:=Lib.hid (HK.out.later Z7.out)
   have hc8:=row_cap_ R11.out
   have hy8:=(byt_row R11.out).2
   have hN8:63+276+276+(N - 615)=N:=by have:=NN.out;omega
   rw[hN8] at hc8 hy8
   try rw[hN8]
   have O8:=Lib.hid (open_cut kf (swF F) pw11 N cw11 7 FK.out (fun j _=>in_swF IF.out j) (by have:=NN.out;omega) hc8.1 hc8.2 (SW.out _ _ _ (by omega) (by omega) (fun j hj=>sw_0 F hj) (sw_1 F (j:=0) (by decide))) w11 (HG.out.later B.out) (Hg.out.later B.out) hy8)
   clear hc8 hy8 hN8 R8 R9 R10 R11 H0 H1 H2 H3 Z7
   go_wp2_with (first | (refine wpList_load_mid rfl 22 _ rfl D 0 rfl (nums .u8 kf 32) _ HK.out.cell Tryz.underlying22 rfl (by kernel_rfl) ?_))
   go_at_call 18
   refine O8.out.mono ?_
   rintro e w12 ⟨mm,YY,rfl,hb⟩
   replace B:=Lib.hid (Below.go B.out hb)
   clear hb O8
   go_upto_region 18 with (obtain⟨w6,R,eW,eX,HR0,b6,RW,s6⟩:=al1 w12 _ #[.int .u64 0,.int .i64 0,.int .u32 0,.int .u8 0,.int .u8 0,.int .u8 0,.int .u8 0,.int .u8 0,.int .u8 0,.int .u8 0,.int .u8 0,.int .u32 0,.int .u32 0,.int .i64 0,.int .i64 0] 27 (cM nilMn) rfl rfl;rw[eW,eX];obtain⟨w7,C,eW4,eX4,HC0,b7,CW,s7⟩:=al1 w6 _ #[.int .i64 0,.slice none 0 0,.slice none 0 0,.slice none 0 0,.int .i64 0,.slice none 0 0,.int .i64 0,.int .i64 0,.int .i64 0,.int .i64 0,.int .i64 0,.int .i64 0,.int .i64 0,.int .i64 0,.int .i64 0,.int .i64 0,.int .i64 0,.int .i64 0,.int .i64 0,.int .i64 0,.int .i64 0,.int .i64 0,.int .i64 0,.int .i64 0] 45 (cA (kinA 0)) s6 rfl;rw[eW4,eX4];refine wpList_store_mid rfl 27 _ _ rfl R 0 (cM mm).toArray rfl rfl (freeM (HR0.out.later b7.out)) (by kernel_rfl) (cM_one _) ?_;refine wpList_store_mid rfl 45 _ _ rfl C 0 (cA YY).toArray rfl rfl (freeA (HC0.out.far (c:=R) (o:=0) (vs:=cM mm) (by omega))) (by kernel_rfl) (cA_one _) ?_)
   have HR:=Lib.hid ((putM (Y:=mm) (HR0.out.later b7.out)).far (c:=C) (o:=0) (vs:=cA YY) (by omega))
   have HC:=Lib.hid (putA (Y:=YY) (HC0.out.far (c:=R) (o:=0) (vs:=cM mm) (by omega)))
   have hb:=Below.setCells (Below.setCells (Below.go b6.out b7.out) RW.out (cM mm) 0) (show w12.heap.size≤C by have:=RW.out;omega) (cA YY) 0
   have CN:=Lib.hid (show w12.heap.size≤R∧R<C by have:=RW.out;omega)
   clear eW eX HR0 b6 RW s6 eW4 eX4 HC0 b7 CW s7
   generalize (w7.setCells R 0 (cM mm)).setCells C 0 (cA YY)=w8 at *
   replace B:=Lib.hid (Below.go B.out hb)
   clear hb
   go_wp2_with (fail)
   go_at_call 15
   refine (WK.out _ (HG.out.later B.out) (Hg.out.later B.out)).mono ?_
   rintro e w14 ⟨rfl,hb⟩
   replace B:=Lib.hid (Below.go B.out hb)
   clear hb
   go_wp2_with (fail)
   go_ret
   exact⟨rfl,B.out⟩
 ·rw[if_neg h0] at HY CC ⊢
  have hd:(es != 0)=true:=by simpa using h0
  go_wp2_with (fail)
  go_at_call 15
  refine (WK.out _ (HG.out.later B.out) (Hg.out.later B.out)).mono ?_
  rintro e w6 ⟨rfl,hb⟩
  replace B:=Lib.hid (Below.go B.out hb)
  clear hb
  go_wp2_with (fail)
  go_ret
  exact⟨rfl,B.out⟩
end Go.Proofs.YtbilamnnneddmaaGreatDoor
