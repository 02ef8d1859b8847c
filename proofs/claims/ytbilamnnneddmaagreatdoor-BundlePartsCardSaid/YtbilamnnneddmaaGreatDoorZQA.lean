import Derived.Test.YtbilamnnneddmaaGreatDoorZQgx
import Derived.Test.YtbilamnnneddmaaGreatDoorZCTx
import Derived.OrdersHeld
import Derived.Lib.Hide
import Derived.LoopN
import Derived.LoopTactic
import Derived.Deep.Onto
import Derived.Deep.RegionHeld3
import Derived.Deep.QuietTactic
import Derived.BigQuiet
import Derived.Great.BuildSlice
import Derived.StillTailTactics
import Derived.Lib.SliceRun
namespace Go.Proofs.YtbilamnnneddmaaGreatDoor
set_option linter.unusedVariables false
set_option maxRecDepth 2000
set_option linter.unusedSimpArgs false
open Go.RowKit
theorem mark_str:strOfNums ((List.range 4).map markF) = { data:=#[85,77,66,49] }:=by decide
theorem byt_as {w:World} {q:Option Addr} {n:Nat} {f g:Nat→Int} (h:Byt w q n f) (e:∀ j,j<n→f j=g j):Byt w q n g:=by
 unfold Byt at h ⊢
 rwa [← nums_congr .u8 e]
structure RwB (B:Nat) (v:Value) (n:Nat) (xs:List Value) (w:World):Prop where
 h:w.ownsRow B 5 1 v n xs
theorem RwB.later {B:Nat} {v:Value} {n:Nat} {xs:List Value} {w w':World} (h:RwB B v n xs w) (hb:Below w.heap.size w w'):RwB B v n xs w':=⟨row_later h.h hb⟩
theorem Open_t (kf nf f sg:Nat→Int) (p:Option Addr) (qb qo n m N c dc:Nat) (eN:N=m+16) (ez:eqB (fun j=>sg (m+j)) (macF kf nf f n sg m) 16=true) (hk:∀ i,i<32→inB (kf i)) (hn:∀ i,i<12→inB (nf i)) (hf:∀ i,i<n→inB (f i)) (hs:∀ i,i<N→inB (sg i)) (hn4:n≤16384) (hm4:m≤16384)
  (hnc:n≤c) (hmd:N≤dc) (hc:c≤9223372036854775807) (hd:dc≤9223372036854775807) (w:World) (hG:Has 1 0 GL w) (hp:Byt w p n f) (hq:Has qb qo (nums .u8 sg N) w) :
  Calls Tryz.prog 24 #[(.agg (nums .u8 kf 32).toArray),(.agg (nums .u8 nf 12).toArray),.slice p n c,.slice (some ⟨qb,qo,none⟩) N dc] w fun e w'=>∃ q d,e = .returned (.tuple #[.slice q m d,.int .i64 0])∧Byt w' q m (nencF kf nf sg)∧Below w.heap.size w w':=by
 refine (Open_z kf nf f sg p qb qo n m N c dc eN true ez hk hn hf hs hn4 hm4 hnc hmd hc hd w hG hp hq).mono ?_
 rintro e w' ⟨q,d,er,rfl,he,hy,hb⟩
 rw[if_pos rfl] at he hy
 subst he
 exact⟨q,d,by rw[if_pos rfl],hy,hb⟩
section
variable {kf b mF P:Nat→Int} {L:Nat}
theorem head_tag:eqB (fun j=>(fun j=>bunF kf b mF P L (47+j)) (0+j)) (macF kf (nonF b 0) (bunF kf b mF P L) 47 (fun j=>bunF kf b mF P L (47+j)) 0) 16=true:=by
 refine eqB_congr fun j hj=>?_
 show bunF kf b mF P L (47+(0+j))=_
 rw[show 0+j=j by omega,show bunF kf b mF P L (47+j)=tagB kf b mF j from bun_tag j hj]
 unfold tagB
 rw[macF_congr (f:=bunF kf b mF P L) (f':=headF b mF) (g':=nencF kf (nonF b 0) fun _=>0) bun_head fun j hj=>absurd hj (Nat.not_lt_zero j)]
theorem chunk_tag (i:Nat):eqB (fun j=>chkC (bunF kf b mF P L) i (chL L i+j)) (macF kf (nonF b (i+1)) (addF (ttF (bunF kf b mF P L)) i (chL L i)) 20 (chkC (bunF kf b mF P L) i) (chL L i)) 16=true:=by
 have:=bun_tagC (kf:=kf) (b:=b) (mF:=mF) (P:=P) (L:=L) i
 unfold tagC at this
 rwa [bun_non] at this
theorem add_nums (i:Nat):nums .u8 (fun j=>bunF kf b mF P L (63+276*i+j)) 4 ++ nums .u8 (fun j=>bunF kf b mF P L (47+j)) 16=nums .u8 (addF (ttF (bunF kf b mF P L)) i (chL L i)) 20:=by
 have h:=of_decide_eq_true (bun_fro (kf:=kf) (b:=b) (mF:=mF) (P:=P) (L:=L) i)
 rw[nums_congr .u8 (f:=fun j=>bunF kf b mF P L (63+276*i+j)) (g:=froF i (chL L i)) h]
 refine List.ext_getElem? fun j=>?_
 rw[List.getElem?_append,nums_length]
 by_cases h4:j<4
 ·rw[if_pos h4,nums_at _ _ h4,nums_at _ _ (by omega)]
  unfold addF
  rw[if_pos h4]
 ·rw[if_neg h4]
  by_cases h20:j<20
  ·rw[nums_at _ _ (by omega),nums_at _ _ h20]
   unfold addF ttF
   rw[if_neg h4]
  ·rw[nums_out _ _ (by omega),nums_out _ _ (by omega)]
theorem plain_at (i:Nat) (hP:∀ j,j<L→inB (P j)):∀ j,j<chL L i→nencF kf (nonF b (i+1)) (chkC (bunF kf b mF P L) i) j=P (256*i+j):=fun j hj=>by
 rw[nenc_congr (bun_enc hj),nenc_back (m:=chL L i) (fun r hr=>hP _ (by unfold chL at hr;omega)) _ hj]
end
set_option maxHeartbeats 16000000 in
theorem Parts_core (kf b:Nat→Int) (M:Mn) (A:Ast) (hk:∀ i,i<32→inB (kf i)) (hb:∀ i,i<8→inB (b i)) (hM:okM M) (w:World) (hA:AstAt A w) (hG:Has 1 0 GL w) (hg:Has 0 0 CapL w) :
  Calls Tryz.prog 7 #[.agg (cS kf b M).toArray,.agg (cA A).toArray] w fun e w'=>e = .returned (.bool true)∧Below w.heap.size w w':=by
 have FK:=Lib.hid hk;have FB:=Lib.hid hb;have HG:=Lib.hid hG;have Hg:=Lib.hid hg;have HA_:=Lib.hid hA;have OM:=Lib.hid hM
 have FW:=Lib.hid (lfew_any A)
 have WK:=Lib.hid works16_any
 clear hk hb hM hA hG hg
 go_enter Tryz.func7,Tryz.ntmps7
 go_upto_region 1 with fail
 obtain⟨W0,D,eW,eX,HD,BW0,DW,SW0⟩:=al1 w _ (cS kf b M).toArray 29 (cS kf b M) rfl rfl
 rw[eW,eX]
 obtain⟨W1,X,eW,eX,HX,BW1,XW,SW1⟩:=al1 W0 _ (cA A).toArray 45 (cA A) SW0 rfl
 rw[eW,eX]
 have B:=Lib.hid (Below.go BW0.out BW1.out)
 obtain⟨hk_,hb_,hm_⟩:=cS_has (HD.out.later BW1.out).has
 have HK:=Lib.hid hk_;have HB:=Lib.hid hb_;have HM:=Lib.hid hm_
 have XW:=Lib.hid (show w.heap.size≤X∧D<X from ⟨Nat.le_trans BW0.out.size XW.out,Nat.lt_of_lt_of_le HD.out.lt XW.out⟩)
 clear eW eX BW0 BW1 SW0 SW1 HD hk_ hb_ hm_ DW
 go_wp2_with (refine wpList_load_mid rfl 45 _ rfl X 0 rfl (cA A) _ HX.out.cell Tryz.underlying45 rfl (by kernel_rfl) ?_)
 go_at_call 9
 refine (FW.out _ (HA_.out.later B.out)).mono ?_
 rintro e w2 ⟨rfl,hb⟩
 replace HK:=Lib.hid (HK.out.later hb)
 replace HB:=Lib.hid (HB.out.later hb)
 replace HM:=Lib.hid (HM.out.later hb)
 replace HX:=Lib.hid (HX.out.later hb)
 replace B:=Lib.hid (Below.go B.out hb)
 clear hb FW
 go_upto_region 2 with (refine wpList_store_mid rfl 45 _ _ rfl X 0 (cA (fewA A)).toArray rfl rfl (freeA HX.out) (by kernel_rfl) (cA_one _) ?_)
 have nX:=XW.out
 have HX2:=Lib.hid (putA (Y:=fewA A) HX.out)
 have b2:=Below.setCells B.out nX.1 (cA (fewA A)) 0
 have HK2:=Lib.hid (HK.out.far (c:=X) (o:=0) (vs:=cA (fewA A)) (by omega));have HB2:=Lib.hid (HB.out.far (c:=X) (o:=0) (vs:=cA (fewA A)) (by omega));have HM2:=Lib.hid (HM.out.far (c:=X) (o:=0) (vs:=cA (fewA A)) (by omega))
 clear HK HB HM HX B
 generalize w2.setCells X 0 (cA (fewA A))=w3 at *
 have HK:=HK2;have HB:=HB2;have HM:=HM2;have HX:=HX2;have B:=Lib.hid b2
 clear HK2 HB2 HM2 HX2 b2
 replace HA_:Hid (AstAt (fewA A) w):=Lib.hid (fewA_at HA_.out)
 have FA:=Lib.hid (fewA_few A)
 generalize fewA A=A at *
 have SC:=Lib.hid (fun w hA hG hg=>Seal_b kf b M A FK.out FB.out OM.out FA.out w hA hG hg)
 go_wp2_with (first | (refine wpList_load_mid rfl 22 _ rfl D 0 rfl (nums .u8 kf 32) _ HK.out.cell Tryz.underlying22 rfl (by kernel_rfl) ?_) | (refine wpList_load_mid rfl 23 _ rfl D 32 rfl (nums .u8 b 8) _ HB.out.cell Tryz.underlying23 rfl (by kernel_rfl) ?_) | (refine wpList_load_mid rfl 27 _ rfl D 40 rfl (cM M) _ HM.out.cell Tryz.underlying27 rfl (by kernel_rfl) ?_) | (refine wpList_load_mid rfl 45 _ rfl X 0 rfl (cA A) _ HX.out.cell Tryz.underlying45 rfl (by kernel_rfl) ?_))
 go_at_call 10
 refine (SC.out _ (HA_.out.later B.out) (HG.out.later B.out) (Hg.out.later B.out)).mono ?_
 rintro e w4 ⟨v,rfl,⟨q,c,rfl,hc1,hc2,hy⟩,hb⟩
 replace HK:=Lib.hid (HK.out.later hb)
 replace HB:=Lib.hid (HB.out.later hb)
 replace HM:=Lib.hid (HM.out.later hb)
 replace HX:=Lib.hid (HX.out.later hb)
 replace B:=Lib.hid (Below.go B.out hb)
 have HY:=Lib.hid hy;have CC:=Lib.hid (And.intro hc1 hc2)
 clear hb hy hc1 hc2 SC
 obtain⟨es,hes⟩:∃ z,selE M A=z:=⟨_,rfl⟩
 rw[hes] at HY CC ⊢
 have ES:=Lib.hid hes
 clear hes
 by_cases h0:es=0
 ·subst h0
  rw[if_pos rfl] at HY CC ⊢
  have CE:=Lib.hid (fun w hA hg=>AEncode_any A FA.out w hA hg)
  go_wp2_with (first | (refine wpList_load_mid rfl 45 _ rfl X 0 rfl (cA A) _ HX.out.cell Tryz.underlying45 rfl (by kernel_rfl) ?_))
  go_at_call 21
  refine (CE.out _ (HA_.out.later B.out) (Hg.out.later B.out)).mono ?_
  rintro e w5 ⟨⟨v,rfl,pq,pc,rfl,pc1,pc2,hp⟩,hb⟩
  replace HK:=Lib.hid (HK.out.later hb)
  replace HB:=Lib.hid (HB.out.later hb)
  replace HY:=Lib.hid (HY.out.later hb)
  replace B:=Lib.hid (Below.go B.out hb)
  have PC:=Lib.hid (And.intro pc1 pc2)
  have HP:=Lib.hid hp
  clear hb CE pc1 pc2 hp HM HX
  obtain⟨hz,hz2,hz3⟩:=sel_zero ES.out
  have hL:=lenA_le hz
  rw[hz,show encL 0 (lenA A)=lenA A from rfl] at HP PC ⊢
  have hbL:=bunL_le hL.2.1
  have IF:=Lib.hid (fun j=>in_selF (kf:=kf) (b:=b) (M:=M) (A:=A) FB.out OM.out hz j)
  have IP:=Lib.hid (encA_in hz)
  have MK:Hid (∀ j,j<4→selF kf b M A j=markF j):=Lib.hid (of_decide_eq_true (bun_mark (kf:=kf) (b:=b) (mF:=encM (M.of (lenA A))) (P:=encA A) (L:=lenA A)))
  have HT:=Lib.hid (head_tag (kf:=kf) (b:=b) (mF:=encM (M.of (lenA A))) (P:=encA A) (L:=lenA A))
  have CTG:=Lib.hid (chunk_tag (kf:=kf) (b:=b) (mF:=encM (M.of (lenA A))) (P:=encA A) (L:=lenA A))
  have ADN:=Lib.hid (add_nums (kf:=kf) (b:=b) (mF:=encM (M.of (lenA A))) (P:=encA A) (L:=lenA A))
  have PLA:=Lib.hid (fun i=>plain_at (kf:=kf) (b:=b) (mF:=encM (M.of (lenA A))) (P:=encA A) (L:=lenA A) i IP.out)
  have hF:bunF kf b (encM (M.of (lenA A))) (encA A) (lenA A)=selF kf b M A:=rfl
  simp only[hF] at HT CTG ADN PLA
  clear hF hz hz2 hz3
  generalize selF kf b M A=F at *
  generalize encA A=P at *
  obtain⟨L,eL⟩:∃ L,lenA A=L:=⟨_,rfl⟩
  obtain⟨N,eN⟩:∃ N,bunL L=N:=⟨_,rfl⟩
  rw[eL] at hL hbL HY CC HP PC CTG ADN PLA IP ⊢
  rw[eN] at hbL HY CC ⊢
  have EN:=Lib.hid eN;have HL:=Lib.hid hL;have HBL:=Lib.hid hbL
  clear eL eN ES OM FA HA_
  obtain⟨D2,o2,rfl,hQ⟩:=HY.out.resolve_left (by omega)
  obtain⟨D3,o3,rfl,hR⟩:=HP.out.resolve_left (by omega)
  have HQ:=Lib.hid hQ;have HR:=Lib.hid hR
  have cv:=conv_any (some ⟨D2,o2,none⟩) 4 c markF w5 (byt_as (.inr ⟨D2,o2,rfl,has_take hQ (by omega)⟩) MK.out)
  rw[mark_str] at cv
  have g3:decide ((N:Int)<63)=false:=decide_eq_false (by omega)
  have n4:(4:Int)≤(c:Int):=by have:=CC.out.1;omega
  have n47:(47:Int)≤(c:Int):=by have:=CC.out.1;omega
  have n63:(63:Int)≤(c:Int):=by have:=CC.out.1;omega
  have m47:c≠47:=by have:=CC.out.1;omega
  have HQ47:=Lib.hid (show Byt w5 (some ⟨D2,o2,none⟩) 47 F from .inr ⟨D2,o2,rfl,has_take hQ (by omega)⟩)
  have HQ16:=Lib.hid (has_take (has_drop (i:=47) hQ (by omega)) (show 16≤N - 47 by omega))
  have HO:=Lib.hid (fun w hG hp hq=>Open_t kf (nonF b 0) F (fun j=>F (47+j)) (some ⟨D2,o2,none⟩) D2 (o2+47) 47 0 16 c (c - 47) rfl HT.out FK.out (fun j _=>in_nonF FB.out 0 j) (fun j _=>IF.out j) (fun j _=>IF.out _) (by decide) (by decide) (by have:=CC.out.1;omega) (by have:=CC.out.1;omega) CC.out.2 (by have:=CC.out.2;omega) w hG hp hq)
  clear hQ hR HY HP hL hbL
  go_upto_region 8 with fail
  refine wp_region_held_drew (S:=fun w'=>Below w5.heap.size w5 w') (by kernel_rfl) (Below.refl _ _).drew (fun hb0_=>?_)
  generalize w5.drew=z0 at *
  refine wpAnyH_take (i:=0) (v:=?_) rfl (by kernel_rfl) (by kernel_rfl) (by kernel_rfl) (fun _ _ _ h=>h) (Or.inl ⟨by rfl,?_⟩) (by assumption) ?_
  rotate_left
  ·intro w' hS;go_simp;try (with_reducible rfl)
  try simp only[Act.put,List.getElem_toArray,List.getElem_cons_zero,List.getElem_cons_succ,List.setIfInBounds_toArray,List.set_cons_zero,List.set_cons_succ]
  refine wpAnyH_take (i:=1) (v := .agg (nums .u8 kf 32).toArray) rfl (by kernel_rfl) (by kernel_rfl) (by kernel_rfl) (fun _ _ _ h=>h) (yieldsIf_load_mid (by rfl) 22 _ rfl D 0 rfl (nums .u8 kf 32) _ (fun w h=>(HK.out.later h).cell) Tryz.underlying22 rfl (by kernel_rfl)) (by assumption) ?_
  try simp only[Act.put,List.getElem_toArray,List.getElem_cons_zero,List.getElem_cons_succ,List.setIfInBounds_toArray,List.set_cons_zero,List.set_cons_succ]
  refine wpAnyH_take (i:=2) (v:=?_) rfl (by kernel_rfl) (by kernel_rfl) (by kernel_rfl) (fun _ _ _ h=>h) (Or.inl ⟨by rfl,?_⟩) (by assumption) ?_
  rotate_left
  ·intro w' hS;go_simp;try (with_reducible rfl)
  try simp only[Act.put,List.getElem_toArray,List.getElem_cons_zero,List.getElem_cons_succ,List.setIfInBounds_toArray,List.set_cons_zero,List.set_cons_succ]
  refine wpAnyH_take (i:=3) (v := .agg (nums .u8 b 8).toArray) rfl (by kernel_rfl) (by kernel_rfl) (by kernel_rfl) (fun _ _ _ h=>h) (yieldsIf_load_mid (by rfl) 23 _ rfl D 32 rfl (nums .u8 b 8) _ (fun w h=>(HB.out.later h).cell) Tryz.underlying23 rfl (by kernel_rfl)) (by assumption) ?_
  try simp only[Act.put,List.getElem_toArray,List.getElem_cons_zero,List.getElem_cons_succ,List.setIfInBounds_toArray,List.set_cons_zero,List.set_cons_succ]
  refine wpAnyH_take (i:=5) (v:=?_) rfl (by kernel_rfl) (by kernel_rfl) (by kernel_rfl) (fun _ _ _ h=>h) (Or.inl ⟨by rfl,?_⟩) (by assumption) ?_
  rotate_left
  ·intro w' hS;go_simp;try (with_reducible rfl)
  try simp only[Act.put,List.getElem_toArray,List.getElem_cons_zero,List.getElem_cons_succ,List.setIfInBounds_toArray,List.set_cons_zero,List.set_cons_succ]
  refine wpAnyH_take (i:=6) (v:=?_) rfl (by kernel_rfl) (by kernel_rfl) (by kernel_rfl) (fun _ _ _ h=>h) (Or.inl ⟨by rfl,?_⟩) (by assumption) ?_
  rotate_left
  ·intro w' hS;go_simp;try (with_reducible rfl)
  try simp only[Act.put,List.getElem_toArray,List.getElem_cons_zero,List.getElem_cons_succ,List.setIfInBounds_toArray,List.set_cons_zero,List.set_cons_succ]
  refine wpAnyH_take (i:=7) (v:=?_) rfl (by kernel_rfl) (by kernel_rfl) (by kernel_rfl) (fun _ _ _ h=>h) (Or.inl ⟨by rfl,?_⟩) (by assumption) ?_
  rotate_left
  ·intro w' hS;go_simp;try (with_reducible rfl)
  try simp only[Act.put,List.getElem_toArray,List.getElem_cons_zero,List.getElem_cons_succ,List.setIfInBounds_toArray,List.set_cons_zero,List.set_cons_succ]
  refine wpAnyH_take (i:=8) (v:=?_) rfl (by kernel_rfl) (by kernel_rfl) (by kernel_rfl) (fun _ _ _ h=>h) (Or.inl ⟨by rfl,?_⟩) (by assumption) ?_
  rotate_left
  ·intro w' hS;go_simp;try (with_reducible rfl)
  try simp only[Act.put,List.getElem_toArray,List.getElem_cons_zero,List.getElem_cons_succ,List.setIfInBounds_toArray,List.set_cons_zero,List.set_cons_succ]
  refine wpAnyH_ready (rs:=[4]) (by kernel_rfl) (by simp) ?_
  refine (AllReadyH.cons rfl (fun K_ hK=>?_) AllReadyH.nil)
  go_simp
  go_at_call 13
  refine (Nonce_any b 0 FB.out _).mono ?_
  rintro e u4 ⟨rfl,h1⟩
  have b4:=Below.go hb0_ h1
  clear h1
  refine hK.out _ _ b4 (fun _=>?_)
  clear hK K_
  try simp only[Act.put,List.getElem_toArray,List.getElem_cons_zero,List.getElem_cons_succ,List.setIfInBounds_toArray,List.set_cons_zero,List.set_cons_succ]
  refine wpAnyH_ready (rs:=[9]) (by kernel_rfl) (by simp) ?_
  refine (AllReadyH.cons rfl (fun K_ hK=>?_) AllReadyH.nil)
  go_simp
  go_at_call 24
  refine (HO.out _ (HG.out.later (Below.go B.out b4)) (HQ47.out.later b4) (HQ16.out.later b4)).mono ?_
  rintro e u4_9 ⟨q9,d9,rfl,_,h1⟩
  have b4_9:=Below.go b4 h1
  clear h1
  refine hK.out _ _ b4_9 (fun _=>?_)
  clear hK K_
  try simp only[Act.put,List.getElem_toArray,List.getElem_cons_zero,List.getElem_cons_succ,List.setIfInBounds_toArray,List.set_cons_zero,List.set_cons_succ]
  refine wpAnyH_take (i:=10) (v:=?_) rfl (by kernel_rfl) (by kernel_rfl) (by kernel_rfl) (fun _ _ _ h=>h) (Or.inl ⟨by rfl,?_⟩) (by assumption) ?_
  rotate_left
  ·intro w' hS;go_simp;try (with_reducible rfl)
  try simp only[Act.put,List.getElem_toArray,List.getElem_cons_zero,List.getElem_cons_succ,List.setIfInBounds_toArray,List.set_cons_zero,List.set_cons_succ]
  refine wpAnyH_take (i:=11) (v:=?_) rfl (by kernel_rfl) (by kernel_rfl) (by kernel_rfl) (fun _ _ _ h=>h) (Or.inl ⟨by rfl,?_⟩) (by assumption) ?_
  rotate_left
  ·intro w' hS;go_simp;try (with_reducible rfl)
  try simp only[Act.put,List.getElem_toArray,List.getElem_cons_zero,List.getElem_cons_succ,List.setIfInBounds_toArray,List.set_cons_zero,List.set_cons_succ]
  refine wpAnyH_take (i:=12) (v:=?_) rfl (by kernel_rfl) (by kernel_rfl) (by kernel_rfl) (fun _ _ _ h=>h) (Or.inl ⟨by rfl,?_⟩) (by assumption) ?_
  rotate_left
  ·intro w' hS;go_simp;try (with_reducible rfl)
  try simp only[Act.put,List.getElem_toArray,List.getElem_cons_zero,List.getElem_cons_succ,List.setIfInBounds_toArray,List.set_cons_zero,List.set_cons_succ]
  refine wpAnyH_take (i:=13) (v:=?_) rfl (by kernel_rfl) (by kernel_rfl) (by kernel_rfl) (fun _ _ _ h=>h) (Or.inl ⟨by rfl,?_⟩) (by assumption) ?_
  rotate_left
  ·intro w' hS;go_simp;try (with_reducible rfl)
  try simp only[Act.put,List.getElem_toArray,List.getElem_cons_zero,List.getElem_cons_succ,List.setIfInBounds_toArray,List.set_cons_zero,List.set_cons_succ]
  refine wpAnyH_take (i:=14) (v:=?_) rfl (by kernel_rfl) (by kernel_rfl) (by kernel_rfl) (fun _ _ _ h=>h) (Or.inl ⟨by rfl,?_⟩) (by assumption) ?_
  rotate_left
  ·intro w' hS;go_simp;try (with_reducible rfl)
  try simp only[Act.put,List.getElem_toArray,List.getElem_cons_zero,List.getElem_cons_succ,List.setIfInBounds_toArray,List.set_cons_zero,List.set_cons_succ]
  refine wpAnyH_done (by kernel_rfl) ?_ _
  replace B:=Lib.hid (Below.go B.out b4_9)
  replace HK:=Lib.hid (HK.out.later b4_9);replace HB:=Lib.hid (HB.out.later b4_9);replace HQ:=Lib.hid (HQ.out.later b4_9);replace HR:=Lib.hid (HR.out.later b4_9)
  clear b4_9 hb0_ HO HQ47 HQ16 HT
  go_wp2_with (fail)
  have A0:bunA L 0=63:=by unfold bunA;omega
  go_loopw [11,12] (fun av iv wr=>∃ i:Nat,i≤chN L∧av = .int .i64 (bunA L i:Nat)∧iv = .int .i64 i∧Hid (Below u4_9.heap.size u4_9 wr)) (fun _ iv _=>(chN L - (intOf iv).toNat))
  case atStart=>exact⟨0,Nat.zero_le _,by rw[A0];rfl,rfl,Lib.hid (Below.refl _ _)⟩
  case round =>
   obtain⟨i,hi,rfl,rfl,HZ⟩:=hrel
   have CK:=Lib.hid (fun w=>Chunks_any (L:Nat) (by have:=HL.out;omega) w)
   rw[chunk_N] at CK
   by_cases hlt:i<chN L
   ·have ha:=bunA_lt hlt
    have hs:=bunA_succ hlt
    have hm:=bunA_mono (L:=L) (show i+1≤chN L by omega)
    rw[show bunA L (chN L)=N from EN.out,hs] at hm
    obtain⟨a,ea⟩:∃ a,bunA L i=a:=⟨_,rfl⟩
    obtain⟨n,en⟩:∃ n,chL L i=n:=⟨_,rfl⟩
    have hn:1≤n∧n≤256∧256*i+n≤L∧(n:Int)=min 256 ((L:Int) - 256*i):=by unfold chL at en;unfold chN at hlt;omega
    rw[ea] at ha ⊢
    rw[en] at hm
    rw[en,← ha] at hs
    have LL:=HL.out;have NN:=HBL.out;have C1:=CC.out;have P1:=PC.out
    have g1:decide ((i:Int)<(chN L:Int))=true:=decide_eq_true (by omega)
    have w1_:IntKind.i64.wrap (256*(i:Int))=256*(i:Int):=IntWalk.i64_in _ (by omega)
    have w2_:IntKind.i64.wrap ((L:Int) - 256*(i:Int))=(L:Int) - 256*(i:Int):=IntWalk.i64_in _ (by omega)
    have w3_:IntKind.i64.wrap ((N:Int) - (a:Int))=(N:Int) - (a:Int):=IntWalk.i64_in _ (by omega)
    have w4_:IntKind.i64.wrap ((n:Int)+20)=(n:Int)+20:=IntWalk.i64_in _ (by omega)
    have w5_:IntKind.i64.wrap ((a:Int)+4)=(a:Int)+4:=IntWalk.i64_in _ (by omega)
    have w6_:IntKind.i64.wrap ((a:Int)+20)=(a:Int)+20:=IntWalk.i64_in _ (by omega)
    have w7_:IntKind.i64.wrap ((a:Int)+20+(n:Int))=(a:Int)+20+(n:Int):=IntWalk.i64_in _ (by omega)
    have w8_:IntKind.i64.wrap ((i:Int)+1)=(i:Int)+1:=IntWalk.i64_in _ (by omega)
    have w9_:IntKind.i64.wrap (256*(i:Int)+(n:Int))=256*(i:Int)+(n:Int):=IntWalk.i64_in _ (by omega)
    have wA_:IntKind.i64.wrap ((a:Int)+((n:Int)+20))=(a:Int)+((n:Int)+20):=IntWalk.i64_in _ (by omega)
    have mn_:min 256 ((L:Int) - 256*(i:Int))=(n:Int):=hn.2.2.2.symm
    have g2:decide ((N:Int) - (a:Int)<(n:Int)+20)=false:=decide_eq_false (by omega)
    have AA:=Lib.hid (And.intro ha hs);have HNn:=Lib.hid hn;have HM:=Lib.hid hm;have HLT:=Lib.hid hlt;have En:=Lib.hid en
    have t1:((a:Int)+4).toNat=a+4:=by omega
    have t2:((a:Int)+20+(n:Int)).toNat=a+20+n:=by omega
    have t3:a+20+n - (a+4)=n+16:=by omega
    have t4:a+4 - a=4:=by omega
    have s1:(a:Int)+4≤(c:Int):=by omega
    have s2:(a:Int)+20+(n:Int)≤(c:Int):=by omega
    have s3:(a:Int)+4≤(a:Int)+20+(n:Int):=by omega
    have s4:(0:Int)≤(a:Int)+4:=by omega
    have s5:(0:Int)≤(a:Int):=by omega
    have m1:c≠a:=by omega
    have m2:c≠a+4:=by omega
    have hQ:=HQ.out.later HZ.out
    have HA4:=Lib.hid (has_take (has_drop (i:=a) (m:=N - a) hQ (by omega)) (show 4≤N - a by omega))
    have HA16:=Lib.hid (has_take (has_drop (i:=47) (m:=N - 47) hQ (by omega)) (show 16≤N - 47 by omega))
    have HSG:=Lib.hid (show Has D2 (o2+(a+4)) (nums .u8 (chkC F i) (n+16)) wr by rw[nums_congr .u8 (f:=chkC F i) (g:=fun j=>F (a+4+j)) fun j _=>by unfold chkC;rw[ha,Nat.add_assoc (63+276*i)]];exact has_take (has_drop (i:=a+4) (m:=N - (a+4)) hQ (by omega)) (by omega))
    have ADa:=ADN.out i
    rw[← ha,en] at ADa
    have CT1:=CTG.out i
    rw[en] at CT1
    have PL1:=PLA.out i
    rw[en] at PL1
    have HAD:=Lib.hid ADa;have HCT:=Lib.hid CT1;have HPL:=Lib.hid PL1
    have CO:=Lib.hid (fun (p:Option Addr) (c3:Nat) (h1:20≤c3) (h2:c3≤9223372036854775807) w hG hp hq=>Open_t kf (nonF b ((i:Int)+1)) (addF (ttF F) i n) (chkC F i) p D2 (o2+(a+4)) 20 n (n+16) c3 (c - (a+4)) rfl HCT.out FK.out (fun j _=>in_nonF FB.out _ j) (fun j hj=>in_addF (fun j _=>IF.out _) j hj) (fun j _=>IF.out _) (by decide) (by have:=HNn.out;omega) h1 (by omega) h2 (by omega) w hG hp hq)
    clear hQ ADa CT1 PL1
    clear ha hs hn hm hlt hi ea en LL NN C1 P1
    go_wp2_with (fail)
    go_at_call 22
    refine (CK.out _).mono ?_
    rintro e w' ⟨rfl,hw⟩
    subst hw
    go_upto_region 18 with fail
    refine wp_region_held_drew (S:=fun wz=>Below w'.heap.size w' wz) (by kernel_rfl) (Below.refl _ _).drew (fun hb0_=>?_)
    generalize w'.drew=z1 at *
    obtain⟨i0,hi0,hz0,hz1,hz2⟩:=infoB_parts
    have IP0:=Lib.hid (And.intro hi0 (And.intro hz0 (And.intro hz1 hz2)))
    clear hi0 hz0 hz1 hz2
    have HK1:=Lib.hid (HK.out.later HZ.out);have HB1:=Lib.hid (HB.out.later HZ.out)
    refine wpAnyH_take (i:=0) (v:=?_) rfl (by kernel_rfl) (by kernel_rfl) (by kernel_rfl) (fun _ _ _ h=>h) (Or.inl ⟨by rfl,?_⟩) (by assumption) ?_
    rotate_left
    ·intro w' hS;go_simp;try (with_reducible rfl)
    try simp only[Act.put,List.getElem_toArray,List.getElem_cons_zero,List.getElem_cons_succ,List.setIfInBounds_toArray,List.set_cons_zero,List.set_cons_succ]
    refine wpAnyH_take (i:=1) (v := .agg (nums .u8 kf 32).toArray) rfl (by kernel_rfl) (by kernel_rfl) (by kernel_rfl) (fun _ _ _ h=>h) (yieldsIf_load_mid (by rfl) 22 _ rfl D 0 rfl (nums .u8 kf 32) _ (fun w h=>(HK1.out.later h).cell) Tryz.underlying22 rfl (by kernel_rfl)) (by assumption) ?_
    try simp only[Act.put,List.getElem_toArray,List.getElem_cons_zero,List.getElem_cons_succ,List.setIfInBounds_toArray,List.set_cons_zero,List.set_cons_succ]
    refine wpAnyH_take (i:=2) (v:=?_) rfl (by kernel_rfl) (by kernel_rfl) (by kernel_rfl) (fun _ _ _ h=>h) (Or.inl ⟨by rfl,?_⟩) (by assumption) ?_
    rotate_left
    ·intro w' hS;go_simp;try (with_reducible rfl)
    try simp only[Act.put,List.getElem_toArray,List.getElem_cons_zero,List.getElem_cons_succ,List.setIfInBounds_toArray,List.set_cons_zero,List.set_cons_succ]
    refine wpAnyH_take (i:=3) (v := .agg (nums .u8 b 8).toArray) rfl (by kernel_rfl) (by kernel_rfl) (by kernel_rfl) (fun _ _ _ h=>h) (yieldsIf_load_mid (by rfl) 23 _ rfl D 32 rfl (nums .u8 b 8) _ (fun w h=>(HB1.out.later h).cell) Tryz.underlying23 rfl (by kernel_rfl)) (by assumption) ?_
    try simp only[Act.put,List.getElem_toArray,List.getElem_cons_zero,List.getElem_cons_succ,List.setIfInBounds_toArray,List.set_cons_zero,List.set_cons_succ]
    refine wpAnyH_take (i:=4) (v:=?_) rfl (by kernel_rfl) (by kernel_rfl) (by kernel_rfl) (fun _ _ _ h=>h) (Or.inl ⟨by rfl,?_⟩) (by assumption) ?_
    rotate_left
    ·intro w' hS;go_simp;try (with_reducible rfl)
    try simp only[Act.put,List.getElem_toArray,List.getElem_cons_zero,List.getElem_cons_succ,List.setIfInBounds_toArray,List.set_cons_zero,List.set_cons_succ]
    refine wpAnyH_take (i:=5) (v:=?_) rfl (by kernel_rfl) (by kernel_rfl) (by kernel_rfl) (fun _ _ _ h=>h) (Or.inl ⟨by rfl,?_⟩) (by assumption) ?_
    rotate_left
    ·intro w' hS;go_simp;try (with_reducible rfl)
    try simp only[Act.put,List.getElem_toArray,List.getElem_cons_zero,List.getElem_cons_succ,List.setIfInBounds_toArray,List.set_cons_zero,List.set_cons_succ]
    refine wpAnyH_take (i:=8) (v:=?_) rfl (by kernel_rfl) (by kernel_rfl) (by kernel_rfl) (fun _ _ _ h=>h) (Or.inl ⟨by rfl,?_⟩) (by assumption) ?_
    rotate_left
    ·intro w' hS;go_simp;try (with_reducible rfl)
    try simp only[Act.put,List.getElem_toArray,List.getElem_cons_zero,List.getElem_cons_succ,List.setIfInBounds_toArray,List.set_cons_zero,List.set_cons_succ]
    refine wpAnyH_take (i:=9) (v:=?_) rfl (by kernel_rfl) (by kernel_rfl) (by kernel_rfl) (fun _ _ _ h=>h) (Or.inl ⟨by rfl,?_⟩) (by assumption) ?_
    rotate_left
    ·intro w' hS;go_simp;try (with_reducible rfl)
    try simp only[Act.put,List.getElem_toArray,List.getElem_cons_zero,List.getElem_cons_succ,List.setIfInBounds_toArray,List.set_cons_zero,List.set_cons_succ]
    refine wpAnyH_take (i:=10) (v:=?_) rfl (by kernel_rfl) (by kernel_rfl) (by kernel_rfl) (fun _ _ _ h=>h) (Or.inl ⟨by rfl,?_⟩) (by assumption) ?_
    rotate_left
    ·intro w' hS;go_simp;try (with_reducible rfl)
    try simp only[Act.put,List.getElem_toArray,List.getElem_cons_zero,List.getElem_cons_succ,List.setIfInBounds_toArray,List.set_cons_zero,List.set_cons_succ]
    refine wpAnyH_take (i:=11) (v:=?_) rfl (by kernel_rfl) (by kernel_rfl) (by kernel_rfl) (fun _ _ _ h=>h) (Or.inl ⟨by rfl,?_⟩) (by assumption) ?_
    rotate_left
    ·intro w' hS;go_simp;try (with_reducible rfl)
    try simp only[Act.put,List.getElem_toArray,List.getElem_cons_zero,List.getElem_cons_succ,List.setIfInBounds_toArray,List.set_cons_zero,List.set_cons_succ]
    refine wpAnyH_take (i:=12) (v:=?_) rfl (by kernel_rfl) (by kernel_rfl) (by kernel_rfl) (fun _ _ _ h=>h) (Or.inl ⟨by rfl,?_⟩) (by assumption) ?_
    rotate_left
    ·intro w' hS;go_simp;try (with_reducible rfl)
    try simp only[Act.put,List.getElem_toArray,List.getElem_cons_zero,List.getElem_cons_succ,List.setIfInBounds_toArray,List.set_cons_zero,List.set_cons_succ]
    refine wpAnyH_take (i:=14) (v:=?_) rfl (by kernel_rfl) (by kernel_rfl) (by kernel_rfl) (fun _ _ _ h=>h) (Or.inl ⟨by rfl,?_⟩) (by assumption) ?_
    rotate_left
    ·intro w' hS;go_simp;try (with_reducible rfl)
    try simp only[Act.put,List.getElem_toArray,List.getElem_cons_zero,List.getElem_cons_succ,List.setIfInBounds_toArray,List.set_cons_zero,List.set_cons_succ]
    refine wpAnyH_take (i:=15) (v:=?_) rfl (by kernel_rfl) (by kernel_rfl) (by kernel_rfl) (fun _ _ _ h=>h) (Or.inl ⟨by rfl,?_⟩) (by assumption) ?_
    rotate_left
    ·intro w' hS;go_simp;try (with_reducible rfl)
    try simp only[Act.put,List.getElem_toArray,List.getElem_cons_zero,List.getElem_cons_succ,List.setIfInBounds_toArray,List.set_cons_zero,List.set_cons_succ]
    refine wpAnyH_take (i:=17) (v:=?_) rfl (by kernel_rfl) (by kernel_rfl) (by kernel_rfl) (fun _ _ _ h=>h) (Or.inl ⟨by rfl,?_⟩) (by assumption) ?_
    rotate_left
    ·intro w' hS;go_simp;try (with_reducible rfl)
    try simp only[Act.put,List.getElem_toArray,List.getElem_cons_zero,List.getElem_cons_succ,List.setIfInBounds_toArray,List.set_cons_zero,List.set_cons_succ]
    refine wpAnyH_take (i:=18) (v:=?_) rfl (by kernel_rfl) (by kernel_rfl) (by kernel_rfl) (fun _ _ _ h=>h) (Or.inl ⟨by rfl,?_⟩) (by assumption) ?_
    rotate_left
    ·intro w' hS;go_simp;try (with_reducible rfl)
    try simp only[Act.put,List.getElem_toArray,List.getElem_cons_zero,List.getElem_cons_succ,List.setIfInBounds_toArray,List.set_cons_zero,List.set_cons_succ]
    refine wpAnyH_take (i:=19) (v:=?_) rfl (by kernel_rfl) (by kernel_rfl) (by kernel_rfl) (fun _ _ _ h=>h) (Or.inl ⟨by rfl,?_⟩) (by assumption) ?_
    rotate_left
    ·intro w' hS;go_simp;try (with_reducible rfl)
    try simp only[Act.put,List.getElem_toArray,List.getElem_cons_zero,List.getElem_cons_succ,List.setIfInBounds_toArray,List.set_cons_zero,List.set_cons_succ]
    refine wpAnyH_take (i:=20) (v:=?_) rfl (by kernel_rfl) (by kernel_rfl) (by kernel_rfl) (fun _ _ _ h=>h) (Or.inl ⟨by rfl,?_⟩) (by assumption) ?_
    rotate_left
    ·intro w' hS;go_simp;try (with_reducible rfl)
    try simp only[Act.put,List.getElem_toArray,List.getElem_cons_zero,List.getElem_cons_succ,List.setIfInBounds_toArray,List.set_cons_zero,List.set_cons_succ]
    refine wpAnyH_take (i:=21) (v:=?_) rfl (by kernel_rfl) (by kernel_rfl) (by kernel_rfl) (fun _ _ _ h=>h) (Or.inl ⟨by rfl,?_⟩) (by assumption) ?_
    rotate_left
    ·intro w' hS;go_simp;try (with_reducible rfl)
    try simp only[Act.put,List.getElem_toArray,List.getElem_cons_zero,List.getElem_cons_succ,List.setIfInBounds_toArray,List.set_cons_zero,List.set_cons_succ]
    refine wpAnyH_take (i:=22) (v:=?_) rfl (by kernel_rfl) (by kernel_rfl) (by kernel_rfl) (fun _ _ _ h=>h) (Or.inl ⟨by rfl,?_⟩) (by assumption) ?_
    rotate_left
    ·intro w' hS;go_simp;try (with_reducible rfl)
    try simp only[Act.put,List.getElem_toArray,List.getElem_cons_zero,List.getElem_cons_succ,List.setIfInBounds_toArray,List.set_cons_zero,List.set_cons_succ]
    refine wpAnyH_take (i:=23) (v:=?_) rfl (by kernel_rfl) (by kernel_rfl) (by kernel_rfl) (fun _ _ _ h=>h) (Or.inl ⟨by rfl,?_⟩) (by assumption) ?_
    rotate_left
    ·intro w' hS;go_simp;try (with_reducible rfl)
    try simp only[Act.put,List.getElem_toArray,List.getElem_cons_zero,List.getElem_cons_succ,List.setIfInBounds_toArray,List.set_cons_zero,List.set_cons_succ]
    refine wpAnyH_take (i:=24) (v:=?_) rfl (by kernel_rfl) (by kernel_rfl) (by kernel_rfl) (fun _ _ _ h=>h) (Or.inl ⟨by rfl,?_⟩) (by assumption) ?_
    rotate_left
    ·intro w' hS;go_simp;try (with_reducible rfl)
    try simp only[Act.put,List.getElem_toArray,List.getElem_cons_zero,List.getElem_cons_succ,List.setIfInBounds_toArray,List.set_cons_zero,List.set_cons_succ]
    refine wpAnyH_ready (rs:=[6,7]) (by kernel_rfl) (by simp) ?_
    refine (AllReadyH.cons rfl (fun K_ hK=>?_) (AllReadyH.cons rfl (fun K_ hK=>?_) AllReadyH.nil))
    ·go_simp
     go_at_call 13
     refine (Nonce_any b ((i:Int)+1) FB.out _).mono ?_
     rintro e u6 ⟨rfl,h1⟩
     have b6:=Below.go hb0_ h1
     clear h1
     refine hK.out _ _ b6 (fun _=>?_)
     clear hK K_
     try simp only[Act.put,List.getElem_toArray,List.getElem_cons_zero,List.getElem_cons_succ,List.setIfInBounds_toArray,List.set_cons_zero,List.set_cons_succ]
     refine wpAnyH_ready (rs:=[7]) (by kernel_rfl) (by simp) ?_
     refine (AllReadyH.cons rfl (fun K_ hK=>?_) AllReadyH.nil)
     go_simp
     have hr0:=World.ownsRow_lit (base:=w'.heap.size) (e:=5) (size:=1) u6 #[] 0 b6.size (by decide) rfl
     have h1:Below u6.heap.size u6 (u6.alloc (.cells #[] 5)):=Below.al (Below.refl _ _)
     obtain⟨R0,eR⟩:∃ x,u6.heap.size=x:=⟨_,rfl⟩
     rw[eR] at hr0
     first | rw[eR] | skip
     generalize u6.alloc (.cells #[] 5)=u6_7 at *
     have RW:=Lib.hid (RwB.mk hr0)
     clear hr0 eR
     have b6_7:=Below.go b6 h1
     clear h1
     refine hK.out _ _ b6_7 (fun _=>?_)
     clear hK K_
     try simp only[Act.put,List.getElem_toArray,List.getElem_cons_zero,List.getElem_cons_succ,List.setIfInBounds_toArray,List.set_cons_zero,List.set_cons_succ]
     refine wpAnyH_ready (rs:=[13]) (by kernel_rfl) (by simp) ?_
     refine (AllReadyH.cons rfl (fun K_ hK=>?_) AllReadyH.nil)
     refine step_append_to rfl _ _ 47 rfl 5 i0 (.int .u8 0) 1 1 Tryz.underlying47 IP0.out.1 IP0.out.2.1 IP0.out.2.2.1 IP0.out.2.2.2 rfl (by decide) w'.heap.size _ 0 [] rfl RW.out.h ⟨D2,o2+a,none⟩ 4 (c - a) (nums .u8 (fun j=>F (a+j)) 4) rfl (by rw[nums_length]) (fun j u hj=>by rw[Addr.add_mid];exact (HA4.out.later b6_7).cell j u hj) (nums_one _ _ _) (by unfold maxLen;omega) (by omega) b6_7.size ?_
     intro v13 u6_7_13 hown hg
     have b6_7_13:=Below.gro b6_7 hg RW.out.h (Nat.le_refl _)
     clear hg
     rw[Nat.zero_add,List.nil_append] at hown
     replace RW:=Lib.hid (RwB.mk hown)
     clear hown
     refine hK.out _ _ b6_7_13 (fun _=>?_)
     clear hK K_
     try simp only[Act.put,List.getElem_toArray,List.getElem_cons_zero,List.getElem_cons_succ,List.setIfInBounds_toArray,List.set_cons_zero,List.set_cons_succ]
     refine wpAnyH_ready (rs:=[16]) (by kernel_rfl) (by simp) ?_
     refine (AllReadyH.cons rfl (fun K_ hK=>?_) AllReadyH.nil)
     refine step_append_to rfl _ _ 47 rfl 5 i0 (.int .u8 0) 1 1 Tryz.underlying47 IP0.out.1 IP0.out.2.1 IP0.out.2.2.1 IP0.out.2.2.2 rfl (by decide) w'.heap.size _ 4 (nums .u8 (fun j=>F (a+j)) 4) rfl RW.out.h ⟨D2,o2+47,none⟩ 16 (c - 47) (nums .u8 (fun j=>F (47+j)) 16) rfl (by rw[nums_length]) (fun j u hj=>by rw[Addr.add_mid];exact (HA16.out.later b6_7_13).cell j u hj) (nums_one _ _ _) (by unfold maxLen;omega) (by omega) b6_7_13.size ?_
     intro v16 u6_7_13_16 hown hg
     have b6_7_13_16:=Below.gro b6_7_13 hg RW.out.h (Nat.le_refl _)
     clear hg
     rw[show nums .u8 (fun j=>F (a+j)) 4 ++ nums .u8 (fun j=>F (47+j)) 16=nums .u8 (addF (ttF F) i n) 20 from HAD.out] at hown
     obtain⟨q3,c3,rfl,_⟩:=row_form hown
     have C3:=Lib.hid (row_cap_ hown)
     replace RW:=Lib.hid (byt_row hown).2
     clear hown
     refine hK.out _ _ b6_7_13_16 (fun _=>?_)
     clear hK K_
     try simp only[Act.put,List.getElem_toArray,List.getElem_cons_zero,List.getElem_cons_succ,List.setIfInBounds_toArray,List.set_cons_zero,List.set_cons_succ]
     refine wpAnyH_ready (rs:=[25]) (by kernel_rfl) (by simp) ?_
     refine (AllReadyH.cons rfl (fun K_ hK=>?_) AllReadyH.nil)
     go_simp
     go_at_call 24
     refine (CO.out q3 c3 C3.out.1 C3.out.2 _ (HG.out.later (Below.go B.out (Below.go HZ.out b6_7_13_16))) RW.out (HSG.out.later b6_7_13_16)).mono ?_
     rintro e u6_7_13_16_25 ⟨q8,d8,rfl,hp8,h1⟩
     have b6_7_13_16_25:=Below.go b6_7_13_16 h1
     replace RW:=Lib.hid (RW.out.later h1)
     have HP8:=Lib.hid hp8
     clear hp8
     clear h1
     refine hK.out _ _ b6_7_13_16_25 (fun _=>?_)
     clear hK K_
     try simp only[Act.put,List.getElem_toArray,List.getElem_cons_zero,List.getElem_cons_succ,List.setIfInBounds_toArray,List.set_cons_zero,List.set_cons_succ]
     refine wpAnyH_take (i:=26) (v:=?_) rfl (by kernel_rfl) (by kernel_rfl) (by kernel_rfl) (fun _ _ _ h=>h) (Or.inl ⟨by rfl,?_⟩) (by assumption) ?_
     rotate_left
     ·intro w' hS;go_simp;try (with_reducible rfl)
     try simp only[Act.put,List.getElem_toArray,List.getElem_cons_zero,List.getElem_cons_succ,List.setIfInBounds_toArray,List.set_cons_zero,List.set_cons_succ]
     refine wpAnyH_take (i:=27) (v:=?_) rfl (by kernel_rfl) (by kernel_rfl) (by kernel_rfl) (fun _ _ _ h=>h) (Or.inl ⟨by rfl,?_⟩) (by assumption) ?_
     rotate_left
     ·intro w' hS;go_simp;try (with_reducible rfl)
     try simp only[Act.put,List.getElem_toArray,List.getElem_cons_zero,List.getElem_cons_succ,List.setIfInBounds_toArray,List.set_cons_zero,List.set_cons_succ]
     refine wpAnyH_take (i:=28) (v:=?_) rfl (by kernel_rfl) (by kernel_rfl) (by kernel_rfl) (fun _ _ _ h=>h) (Or.inl ⟨by rfl,?_⟩) (by assumption) ?_
     rotate_left
     ·intro w' hS;go_simp;try (with_reducible rfl)
     try simp only[Act.put,List.getElem_toArray,List.getElem_cons_zero,List.getElem_cons_succ,List.setIfInBounds_toArray,List.set_cons_zero,List.set_cons_succ]
     refine wpAnyH_take (i:=29) (v:=?_) rfl (by kernel_rfl) (by kernel_rfl) (by kernel_rfl) (fun _ _ _ h=>h) (Or.inl ⟨by rfl,?_⟩) (by assumption) ?_
     rotate_left
     ·intro w' hS;go_simp;try (with_reducible rfl)
     try simp only[Act.put,List.getElem_toArray,List.getElem_cons_zero,List.getElem_cons_succ,List.setIfInBounds_toArray,List.set_cons_zero,List.set_cons_succ]
     refine wpAnyH_take (i:=30) (v:=?_) rfl (by kernel_rfl) (by kernel_rfl) (by kernel_rfl) (fun _ _ _ h=>h) (Or.inl ⟨by rfl,?_⟩) (by assumption) ?_
     rotate_left
     ·intro w' hS;go_simp;try (with_reducible rfl)
     try simp only[Act.put,List.getElem_toArray,List.getElem_cons_zero,List.getElem_cons_succ,List.setIfInBounds_toArray,List.set_cons_zero,List.set_cons_succ]
     refine wpAnyH_done (by kernel_rfl) ?_ _
     have HPi:=Lib.hid (has_drop (i:=256*i) (m:=n) (HR.out.later (Below.go HZ.out b6_7_13_16_25)) (by have:=HNn.out;omega))
     have EQ:=Lib.hid (fun w h1 h2=>EqualG_any q8 (some ⟨D3,o3+256*i,none⟩) n d8 (pc - 256*i) (nencF kf (nonF b ((i:Int)+1)) (chkC F i)) (fun j=>P (256*i+j)) (fun j hj=>by rw[HPL.out j hj];exact IP.out _ (by have:=HNn.out;omega)) (fun j hj=>IP.out _ (by have:=HNn.out;omega)) w h1 h2)
     rw[gqB_congr HPL.out] at EQ
     have v1:(256*(i:Int)).toNat=256*i:=by omega
     have v2:(256*(i:Int)+(n:Int)).toNat=256*i+n:=by omega
     have v3:256*(i:Int)+(n:Int)≤(pc:Int):=by have:=HNn.out;have:=PC.out;omega
     have v4:(0:Int)≤256*(i:Int):=by omega
     have v5:pc≠256*i:=by have:=HNn.out;have:=PC.out;omega
     have v6:256*i+n - 256*i=n:=by omega
     go_wp2_with (fail)
     go_at_call 12
     refine (EQ.out _ HP8.out (.inr ⟨D3,o3+256*i,rfl,HPi.out⟩)).mono ?_
     rintro e w20 ⟨rfl,hb⟩
     have ZB:=Lib.hid (Below.go (Below.go HZ.out b6_7_13_16_25) hb)
     clear hb
     go_wp2_with (fail)
     exact⟨⟨i+1,by have:=HLT.out;omega,by rw[AA.out.2,Int.natCast_add,Int.natCast_add];rfl,by rw[Int.natCast_add];rfl,ZB⟩,by have:=HLT.out;simp[intOf];omega⟩
    ·go_simp
     have hr0:=World.ownsRow_lit (base:=w'.heap.size) (e:=5) (size:=1) z1 #[] 0 hb0_.size (by decide) rfl
     have h1:Below z1.heap.size z1 (z1.alloc (.cells #[] 5)):=Below.al (Below.refl _ _)
     obtain⟨R0,eR⟩:∃ x,z1.heap.size=x:=⟨_,rfl⟩
     rw[eR] at hr0
     first | rw[eR] | skip
     generalize z1.alloc (.cells #[] 5)=u7 at *
     have RW:=Lib.hid (RwB.mk hr0)
     clear hr0 eR
     have b7:=Below.go hb0_ h1
     clear h1
     refine hK.out _ _ b7 (fun _=>?_)
     clear hK K_
     try simp only[Act.put,List.getElem_toArray,List.getElem_cons_zero,List.getElem_cons_succ,List.setIfInBounds_toArray,List.set_cons_zero,List.set_cons_succ]
     refine wpAnyH_ready (rs:=[6]) (by kernel_rfl) (by simp) ?_
     refine (AllReadyH.cons rfl (fun K_ hK=>?_) AllReadyH.nil)
     go_simp
     go_at_call 13
     refine (Nonce_any b ((i:Int)+1) FB.out _).mono ?_
     rintro e u7_6 ⟨rfl,h1⟩
     have b7_6:=Below.go b7 h1
     replace RW:=Lib.hid (RW.out.later h1)
     clear h1
     refine hK.out _ _ b7_6 (fun _=>?_)
     clear hK K_
     try simp only[Act.put,List.getElem_toArray,List.getElem_cons_zero,List.getElem_cons_succ,List.setIfInBounds_toArray,List.set_cons_zero,List.set_cons_succ]
     refine wpAnyH_ready (rs:=[13]) (by kernel_rfl) (by simp) ?_
     refine (AllReadyH.cons rfl (fun K_ hK=>?_) AllReadyH.nil)
     refine step_append_to rfl _ _ 47 rfl 5 i0 (.int .u8 0) 1 1 Tryz.underlying47 IP0.out.1 IP0.out.2.1 IP0.out.2.2.1 IP0.out.2.2.2 rfl (by decide) w'.heap.size _ 0 [] rfl RW.out.h ⟨D2,o2+a,none⟩ 4 (c - a) (nums .u8 (fun j=>F (a+j)) 4) rfl (by rw[nums_length]) (fun j u hj=>by rw[Addr.add_mid];exact (HA4.out.later b7_6).cell j u hj) (nums_one _ _ _) (by unfold maxLen;omega) (by omega) b7_6.size ?_
     intro v13 u7_6_13 hown hg
     have b7_6_13:=Below.gro b7_6 hg RW.out.h (Nat.le_refl _)
     clear hg
     rw[Nat.zero_add,List.nil_append] at hown
     replace RW:=Lib.hid (RwB.mk hown)
     clear hown
     refine hK.out _ _ b7_6_13 (fun _=>?_)
     clear hK K_
     try simp only[Act.put,List.getElem_toArray,List.getElem_cons_zero,List.getElem_cons_succ,List.setIfInBounds_toArray,List.set_cons_zero,List.set_cons_succ]
     refine wpAnyH_ready (rs:=[16]) (by kernel_rfl) (by simp) ?_
     refine (AllReadyH.cons rfl (fun K_ hK=>?_) AllReadyH.nil)
     refine step_append_to rfl _ _ 47 rfl 5 i0 (.int .u8 0) 1 1 Tryz.underlying47 IP0.out.1 IP0.out.2.1 IP0.out.2.2.1 IP0.out.2.2.2 rfl (by decide) w'.heap.size _ 4 (nums .u8 (fun j=>F (a+j)) 4) rfl RW.out.h ⟨D2,o2+47,none⟩ 16 (c - 47) (nums .u8 (fun j=>F (47+j)) 16) rfl (by rw[nums_length]) (fun j u hj=>by rw[Addr.add_mid];exact (HA16.out.later b7_6_13).cell j u hj) (nums_one _ _ _) (by unfold maxLen;omega) (by omega) b7_6_13.size ?_
     intro v16 u7_6_13_16 hown hg
     have b7_6_13_16:=Below.gro b7_6_13 hg RW.out.h (Nat.le_refl _)
     clear hg
     rw[show nums .u8 (fun j=>F (a+j)) 4 ++ nums .u8 (fun j=>F (47+j)) 16=nums .u8 (addF (ttF F) i n) 20 from HAD.out] at hown
     obtain⟨q3,c3,rfl,_⟩:=row_form hown
     have C3:=Lib.hid (row_cap_ hown)
     replace RW:=Lib.hid (byt_row hown).2
     clear hown
     refine hK.out _ _ b7_6_13_16 (fun _=>?_)
     clear hK K_
     try simp only[Act.put,List.getElem_toArray,List.getElem_cons_zero,List.getElem_cons_succ,List.setIfInBounds_toArray,List.set_cons_zero,List.set_cons_succ]
     refine wpAnyH_ready (rs:=[25]) (by kernel_rfl) (by simp) ?_
     refine (AllReadyH.cons rfl (fun K_ hK=>?_) AllReadyH.nil)
     go_simp
     go_at_call 24
     refine (CO.out q3 c3 C3.out.1 C3.out.2 _ (HG.out.later (Below.go B.out (Below.go HZ.out b7_6_13_16))) RW.out (HSG.out.later b7_6_13_16)).mono ?_
     rintro e u7_6_13_16_25 ⟨q8,d8,rfl,hp8,h1⟩
     have b7_6_13_16_25:=Below.go b7_6_13_16 h1
     replace RW:=Lib.hid (RW.out.later h1)
     have HP8:=Lib.hid hp8
     clear hp8
     clear h1
     refine hK.out _ _ b7_6_13_16_25 (fun _=>?_)
     clear hK K_
     try simp only[Act.put,List.getElem_toArray,List.getElem_cons_zero,List.getElem_cons_succ,List.setIfInBounds_toArray,List.set_cons_zero,List.set_cons_succ]
     refine wpAnyH_take (i:=26) (v:=?_) rfl (by kernel_rfl) (by kernel_rfl) (by kernel_rfl) (fun _ _ _ h=>h) (Or.inl ⟨by rfl,?_⟩) (by assumption) ?_
     rotate_left
     ·intro w' hS;go_simp;try (with_reducible rfl)
     try simp only[Act.put,List.getElem_toArray,List.getElem_cons_zero,List.getElem_cons_succ,List.setIfInBounds_toArray,List.set_cons_zero,List.set_cons_succ]
     refine wpAnyH_take (i:=27) (v:=?_) rfl (by kernel_rfl) (by kernel_rfl) (by kernel_rfl) (fun _ _ _ h=>h) (Or.inl ⟨by rfl,?_⟩) (by assumption) ?_
     rotate_left
     ·intro w' hS;go_simp;try (with_reducible rfl)
     try simp only[Act.put,List.getElem_toArray,List.getElem_cons_zero,List.getElem_cons_succ,List.setIfInBounds_toArray,List.set_cons_zero,List.set_cons_succ]
     refine wpAnyH_take (i:=28) (v:=?_) rfl (by kernel_rfl) (by kernel_rfl) (by kernel_rfl) (fun _ _ _ h=>h) (Or.inl ⟨by rfl,?_⟩) (by assumption) ?_
     rotate_left
     ·intro w' hS;go_simp;try (with_reducible rfl)
     try simp only[Act.put,List.getElem_toArray,List.getElem_cons_zero,List.getElem_cons_succ,List.setIfInBounds_toArray,List.set_cons_zero,List.set_cons_succ]
     refine wpAnyH_take (i:=29) (v:=?_) rfl (by kernel_rfl) (by kernel_rfl) (by kernel_rfl) (fun _ _ _ h=>h) (Or.inl ⟨by rfl,?_⟩) (by assumption) ?_
     rotate_left
     ·intro w' hS;go_simp;try (with_reducible rfl)
     try simp only[Act.put,List.getElem_toArray,List.getElem_cons_zero,List.getElem_cons_succ,List.setIfInBounds_toArray,List.set_cons_zero,List.set_cons_succ]
     refine wpAnyH_take (i:=30) (v:=?_) rfl (by kernel_rfl) (by kernel_rfl) (by kernel_rfl) (fun _ _ _ h=>h) (Or.inl ⟨by rfl,?_⟩) (by assumption) ?_
     rotate_left
     ·intro w' hS;go_simp;try (with_reducible rfl)
     try simp only[Act.put,List.getElem_toArray,List.getElem_cons_zero,List.getElem_cons_succ,List.setIfInBounds_toArray,List.set_cons_zero,List.set_cons_succ]
     refine wpAnyH_done (by kernel_rfl) ?_ _
     have HPi:=Lib.hid (has_drop (i:=256*i) (m:=n) (HR.out.later (Below.go HZ.out b7_6_13_16_25)) (by have:=HNn.out;omega))
     have EQ:=Lib.hid (fun w h1 h2=>EqualG_any q8 (some ⟨D3,o3+256*i,none⟩) n d8 (pc - 256*i) (nencF kf (nonF b ((i:Int)+1)) (chkC F i)) (fun j=>P (256*i+j)) (fun j hj=>by rw[HPL.out j hj];exact IP.out _ (by have:=HNn.out;omega)) (fun j hj=>IP.out _ (by have:=HNn.out;omega)) w h1 h2)
     rw[gqB_congr HPL.out] at EQ
     have v1:(256*(i:Int)).toNat=256*i:=by omega
     have v2:(256*(i:Int)+(n:Int)).toNat=256*i+n:=by omega
     have v3:256*(i:Int)+(n:Int)≤(pc:Int):=by have:=HNn.out;have:=PC.out;omega
     have v4:(0:Int)≤256*(i:Int):=by omega
     have v5:pc≠256*i:=by have:=HNn.out;have:=PC.out;omega
     have v6:256*i+n - 256*i=n:=by omega
     go_wp2_with (fail)
     go_at_call 12
     refine (EQ.out _ HP8.out (.inr ⟨D3,o3+256*i,rfl,HPi.out⟩)).mono ?_
     rintro e w20 ⟨rfl,hb⟩
     have ZB:=Lib.hid (Below.go (Below.go HZ.out b7_6_13_16_25) hb)
     clear hb
     go_wp2_with (fail)
     exact⟨⟨i+1,by have:=HLT.out;omega,by rw[AA.out.2,Int.natCast_add,Int.natCast_add];rfl,by rw[Int.natCast_add];rfl,ZB⟩,by have:=HLT.out;simp[intOf];omega⟩
   ·have hi2:i=chN L:=by omega
    have g1:decide ((i:Int)<(chN L:Int))=false:=decide_eq_false (by omega)
    have gN:bunA L i=N:=by rw[hi2];exact EN.out
    rw[gN]
    have g2:¬ ((i:Int)<(chN L:Int)):=by omega
    clear hi hi2 gN
    replace B:=Lib.hid (Below.go B.out HZ.out)
    go_wp2_with (fail)
    go_at_call 22
    refine (CK.out _).mono ?_
    rintro e w' ⟨rfl,hw⟩
    subst hw
    go_wp2_with (fail)
    go_at_call 15
    refine (WK.out _ (HG.out.later B.out) (Hg.out.later B.out)).mono ?_
    rintro e w21 ⟨rfl,hb⟩
    replace B:=Lib.hid (Below.go B.out hb)
    clear hb
    go_wp2_with (fail)
    go_ret
    exact⟨rfl,B.out⟩
 ·rw[if_neg h0] at HY CC ⊢
  have hd:(es != 0)=true:=by simpa using h0
  have CE:=Lib.hid (fun w hA hg=>AEncode_any A FA.out w hA hg)
  go_wp2_with (first | (refine wpList_load_mid rfl 45 _ rfl X 0 rfl (cA A) _ HX.out.cell Tryz.underlying45 rfl (by kernel_rfl) ?_))
  go_at_call 21
  refine (CE.out _ (HA_.out.later B.out) (Hg.out.later B.out)).mono ?_
  rintro e w5 ⟨⟨v,rfl,pq,pc,rfl,pc1,pc2,hp⟩,hb⟩
  replace HK:=Lib.hid (HK.out.later hb)
  replace HB:=Lib.hid (HB.out.later hb)
  replace HY:=Lib.hid (HY.out.later hb)
  replace B:=Lib.hid (Below.go B.out hb)
  have PC:=Lib.hid (And.intro pc1 pc2)
  have HP:=Lib.hid hp
  clear hb CE pc1 pc2 hp HM HX
  go_wp2_with (fail)
  go_at_call 15
  refine (WK.out _ (HG.out.later B.out) (Hg.out.later B.out)).mono ?_
  rintro e w6 ⟨rfl,hb⟩
  replace B:=Lib.hid (Below.go B.out hb)
  clear hb
  go_wp2_with (fail)
  go_ret
  exact⟨rfl,B.out⟩
end Go.Proofs.YtbilamnnneddmaaGreatDoor
