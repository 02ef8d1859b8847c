import Derived.Test.YtbilamnnneddmaaGreatDoorZQfx
import Derived.Test.YtbilamnnneddmaaGreatDoorZJbx
import Derived.Test.YtbilamnnneddmaaGreatDoorZDOx
import Derived.Test.YtbilamnnneddmaaGreatDoorZJcx
import Derived.Lib.Hide
import Derived.LoopN
import Derived.LoopTactic
import Derived.Deep.Onto
import Derived.Deep.RegionHeld3
import Derived.Deep.QuietTactic
import Derived.BigQuiet
import Derived.Great.BuildSlice
import Derived.StillTailTactics
import Derived.Lib.SliceRun
import Derived.Test.YtbilamnnneddmaaGreatDoorZQcx
import Derived.Test.YtbilamnnneddmaaGreatDoorZCHx
import Derived.Test.YtbilamnnneddmaaGreatDoorZQnx
namespace Go.Proofs.YtbilamnnneddmaaGreatDoor
set_option linter.unusedVariables false
set_option maxRecDepth 2000
set_option linter.unusedSimpArgs false
open Go.RowKit
def onN (R:Act→World→Prop) (e:Exit) (a:Act) (w:World):Prop:=match e with
 | .normal=>R a w
 | _=>False
def selE (M:Mn) (A:Ast):Int:=if chkA A≠0 then chkA A else if M.k≠A.k then 12 else chkN (M.of (lenA A))
def selF (kf b:Nat→Int) (M:Mn) (A:Ast):Nat→Int:=bunF kf b (encM (M.of (lenA A))) (encA A) (lenA A)
theorem parts3 {W:World} {X n1 c1 n2 c2 n3 c3:Nat} {p1 p2 p3:Option Addr} {g:Nat→Int} (h:Own X [.slice p1 n1 c1,.slice p2 n2 c2,.slice p3 n3 c3] W) (h1:Byt W p1 n1 fun j=>g (0+j)) (h2:Byt W p2 n2 fun j=>g (n1+j)) (h3:Byt W p3 n3 fun j=>g (n1+n2+j)) (k1:n1≤c1∧c1≤9223372036854775807) (k2:n2≤c2∧c2≤9223372036854775807) (k3:n3≤c3∧c3≤9223372036854775807):Parts W (some ⟨X,0,none⟩) 3 g (fun k=>if k=0 then 0 else if k=1 then n1 else if k=2 then n1+n2 else n1+n2+n3):=fun k hk=>by
 rcases (show k=0∨k=1∨k=2 by omega) with rfl | rfl | rfl
 ·exact⟨X,0,p1,n1,c1,rfl,h.lt,h.at 0 _ rfl,k1.1,k1.2,by show n1=0+n1;omega,h1⟩
 ·exact⟨X,0,p2,n2,c2,rfl,h.lt,h.at 1 _ rfl,k2.1,k2.2,rfl,h2⟩
 ·exact⟨X,0,p3,n3,c3,rfl,h.lt,h.at 2 _ rfl,k3.1,k3.2,rfl,h3⟩
theorem T3_le (a b c k:Nat):(if k=0 then 0 else if k=1 then a else if k=2 then a+b else a+b+c)≤a+b+c:=by
 split
 ·omega
 ·split
  ·omega
  ·split<;>omega
theorem okM_enc {M:Mn} (h:okM M) (j:Nat):inB (encM M j):=gin_encF _ _ _ _ _ _ _ _ j
theorem MEncode_any (M:Mn) (h:okM M) (w:World) (hg:Has 0 0 CapL w):Calls Tryz.prog 26 #[(.agg (cM M).toArray)] w fun e w'=>∃ v,e = .returned (.tuple #[v,.int .i64 (chkN M)])∧RowR w' v (gencL (chkN M)) (encM M)∧Below w.heap.size w w' :=
 gEncode_any M.i M.k M.l M.g M.f M.t M.s M.c h.hi h.hl h.hg h.hf h.ht h.hs w hg
theorem okM_of {M:Mn} (h:okM M) {L:Nat} (hL:L≤100000):okM (M.of L):=⟨h.hi,h.hk,h.hl,h.hg,h.hf,h.ht,by show -9223372036854775808≤(L:Int)∧(L:Int)≤9223372036854775807;omega,by
 have h1:=chunk_N L
 have h2:chN L≤L+255:=by unfold chN;omega
 show -9223372036854775808≤chunkF L∧chunkF L≤9223372036854775807
 omega⟩
theorem byt_size {W:World} {Z n:Nat} {q:Option Addr} {f:Nat→Int} {M:Mn} {vs:List Value} (h:Byt W q n f) (hZ:Own Z (cM M) W) (hv:vs.length=2):Byt (W.setCells Z 13 vs) q n f:=by
 rcases h with h0 | ⟨b,o,e,hh⟩
 ·exact .inl h0
 ·refine .inr ⟨b,o,e,?_⟩
  by_cases hb:b=Z
  ·subst hb
   refine⟨by rw[size_setCells];exact hh.lt,fun j v hj=>?_⟩
   have hc:=hh.cell j v hj
   have hj2:j<n:=by have:=(List.getElem?_eq_some_iff.1 hj).1;rwa [nums_length] at this
   rw[nums_at .u8 f hj2] at hj
   have n13:o+j≠13:=fun e=>by rw[e,hZ.at 13 _ rfl,← hj] at hc;cases hc
   have n14:o+j≠14:=fun e=>by rw[e,hZ.at 14 _ rfl,← hj] at hc;cases hc
   rw[World.cell?_setCells_out b vs 13 W ⟨b,o+j,none⟩ (fun _ _=>by show o+j<13∨13+vs.length≤o+j;omega)]
   exact hc
  ·exact hh.far hb
attribute [local go_sem] Oper.semAt_some
set_option maxHeartbeats 16000000 in
theorem Seal_b (kf b:Nat→Int) (M:Mn) (A:Ast) (hk:∀ i,i<32→inB (kf i)) (hb:∀ i,i<8→inB (b i)) (hM:okM M) (hF:FewA A) (w:World) (hA:AstAt A w) (hG:Has 1 0 GL w) (hg:Has 0 0 CapL w) :
  Calls Tryz.prog 10 #[(.agg (nums .u8 kf 32).toArray),(.agg (nums .u8 b 8).toArray),.agg (cM M).toArray,.agg (cA A).toArray] w fun e w'=>∃ v,e = .returned (.tuple #[v,.int .i64 (selE M A)])∧RowR w' v (if selE M A=0 then bunL (lenA A) else 0) (selF kf b M A)∧Below w.heap.size w w':=by
 have GLT:=Lib.hid (show 1<w.heap.size∧0<w.heap.size from ⟨hG.lt,hg.lt⟩)
 have FK:=Lib.hid hk;have FB:=Lib.hid hb;have HG:=Lib.hid hG;have Hg:=Lib.hid hg;have HA_:=Lib.hid hA;have OM:=Lib.hid hM
 have AE:=Lib.hid (fun w hA hg=>AEncode_any A hF w hA hg)
 clear hk hb hM hF hA hG hg
 refine callsIn_wide.1 (callsIn_of_wp_marks (F:=Fence.wide) (n:=6) Tryz.func10 rfl trivial (wpIn_wide.2 ?_) rfl)
 simp only[Tryz.ntmps10,List.size_toArray,List.length_cons,List.length_nil,Nat.reduceAdd,Nat.reduceSub,Array.replicate_succ,Array.replicate_zero,List.push_toArray,List.append_toArray,List.nil_append,List.cons_append]
 go_upto_region 1 with fail
 obtain⟨W0,K,eW,eX,HK,BW0,KW,SW0⟩:=al1 w _ (nums .u8 kf 32).toArray 22 (nums .u8 kf 32) rfl rfl
 rw[eW,eX]
 have eKw:=eX
 obtain⟨W1,S,eW,eX,HS,BW1,SW,SW1⟩:=al1 W0 _ (nums .u8 b 8).toArray 23 (nums .u8 b 8) SW0 rfl
 rw[eW,eX]
 obtain⟨W2,Z,eW,eX,HZ,BW2,ZW,SW2⟩:=al1 W1 _ (cM M).toArray 27 (cM M) SW1 rfl
 rw[eW,eX]
 obtain⟨W3,X,eW,eX,HX,BW3,XW,SW3⟩:=al1 W2 _ (cA A).toArray 45 (cA A) SW2 rfl
 rw[eW,eX]
 have B:=Lib.hid (Below.go (Below.go (Below.go BW0.out BW1.out) BW2.out) BW3.out)
 replace HK:=Lib.hid (((HK.out.later BW1.out).later BW2.out).later BW3.out);replace HS:=Lib.hid ((HS.out.later BW2.out).later BW3.out);replace HZ:=Lib.hid (HZ.out.later BW3.out)
 have ORD:Hid (w.heap.size≤K∧K<S∧S<Z∧Z<X):=Lib.hid ⟨KW.out,by have:=SW.out;omega,by have:=ZW.out;omega,by have:=XW.out;omega⟩
 clear eW eX BW0 BW1 BW2 BW3 SW0 SW1 SW2 SW3 KW SW ZW XW
 replace HG:=Lib.hid (HG.out.later B.out)
 replace Hg:=Lib.hid (Hg.out.later B.out)
 replace HA_:=Lib.hid (HA_.out.later B.out)
 go_wp2_with (refine wpList_load_mid rfl 45 _ rfl X 0 rfl (cA A) _ HX.out.cell Tryz.underlying45 rfl (by kernel_rfl) ?_)
 go_at_call 21
 refine (AE.out _ HA_.out Hg.out).mono ?_
 rintro e w1 ⟨⟨v,rfl,hrow⟩,hb⟩
 obtain⟨pq,pc,rfl,hpc,hpx,hby⟩:=hrow
 replace HG:=Lib.hid (HG.out.later hb)
 replace Hg:=Lib.hid (Hg.out.later hb)
 replace HK:=Lib.hid (HK.out.later hb)
 replace HS:=Lib.hid (HS.out.later hb)
 replace HZ:=Lib.hid (HZ.out.later hb)
 replace HX:=Lib.hid (HX.out.later hb)
 replace B:=Lib.hid (Below.go B.out hb)
 have PB:=Lib.hid hby
 clear hb hby HA_ AE
 obtain⟨ea,hea⟩:∃ z,z=chkA A:=⟨_,rfl⟩
 rw[← hea] at PB ⊢
 have EA:=Lib.hid hea
 clear hea
 by_cases h0:ea=0
 ·subst h0
  have hl:=lenA_le EA.out.symm
  have IA:=Lib.hid (encA_in EA.out.symm)
  simp only[encL,if_true] at PB hpc ⊢
  have x0:=HX.out.at 0 _ rfl;have xl:=HX.out.lt
  have z1:=HZ.out.at 1 _ rfl;have zl:=HZ.out.lt;have z13:=HZ.out.at 13 _ rfl;have z14:=HZ.out.at 14 _ rfl;have f13:=HZ.out.ok 13 (by show 13<15;decide);have f14:=HZ.out.ok 14 (by show 14<15;decide)
  by_cases h1:M.k=A.k
  ·have CH:=Lib.hid (fun w=>Chunks_any (lenA A) (by omega) w)
   obtain⟨L,eL⟩:∃ L,L=lenA A:=⟨_,rfl⟩
   rw[← eL] at PB hpc CH hl IA ⊢
   have EL:=Lib.hid eL
   have CP:Hid (L≤pc∧pc≤9223372036854775807):=Lib.hid ⟨by rw[if_pos EA.out.symm] at hpc;exact hpc,hpx⟩
   clear eL
   have d1:(M.k != A.k)=false:=by simpa using h1
   go_wp2_with (fail)
   go_at_call 22
   refine (CH.out _).mono ?_
   rintro e w2 ⟨rfl,rfl⟩
   go_upto_region 7 with fail
   clear x0 xl z1 zl z13 z14 f13 f14
   have HZ2:Hid (Own Z (cM (M.of L)) ((w2.setCell ⟨Z,13,none⟩ (.int .i64 L)).setCell ⟨Z,14,none⟩ (.int .i64 (chunkF L)))):=Lib.hid (Own.part (o:=13) (vs:=[.int .i64 L,.int .i64 (chunkF L)]) HZ.out (by show 15≤15;omega))
   have HK2:Hid (Own K (nums .u8 kf 32) ((w2.setCell ⟨Z,13,none⟩ (.int .i64 L)).setCell ⟨Z,14,none⟩ (.int .i64 (chunkF L)))):=Lib.hid (HK.out.far (c:=Z) (o:=13) (vs:=[.int .i64 L,.int .i64 (chunkF L)]) (by have:=ORD.out;omega))
   have HS2:Hid (Own S (nums .u8 b 8) ((w2.setCell ⟨Z,13,none⟩ (.int .i64 L)).setCell ⟨Z,14,none⟩ (.int .i64 (chunkF L)))):=Lib.hid (HS.out.far (c:=Z) (o:=13) (vs:=[.int .i64 L,.int .i64 (chunkF L)]) (by have:=ORD.out;omega))
   have HG2:Hid (Has 1 0 GL ((w2.setCell ⟨Z,13,none⟩ (.int .i64 L)).setCell ⟨Z,14,none⟩ (.int .i64 (chunkF L)))):=Lib.hid (HG.out.far (c:=Z) (o:=13) (vs:=[.int .i64 L,.int .i64 (chunkF L)]) (by have:=ORD.out;have:=GLT.out;omega))
   have Hg2:Hid (Has 0 0 CapL ((w2.setCell ⟨Z,13,none⟩ (.int .i64 L)).setCell ⟨Z,14,none⟩ (.int .i64 (chunkF L)))):=Lib.hid (Hg.out.far (c:=Z) (o:=13) (vs:=[.int .i64 L,.int .i64 (chunkF L)]) (by have:=ORD.out;have:=GLT.out;omega))
   have PB2:Hid (Byt ((w2.setCell ⟨Z,13,none⟩ (.int .i64 L)).setCell ⟨Z,14,none⟩ (.int .i64 (chunkF L))) pq L (encA A)):=Lib.hid (byt_size (vs:=[.int .i64 L,.int .i64 (chunkF L)]) PB.out HZ.out rfl)
   have B2:Hid (Below w.heap.size w ((w2.setCell ⟨Z,13,none⟩ (.int .i64 L)).setCell ⟨Z,14,none⟩ (.int .i64 (chunkF L)))):=Lib.hid (Below.setCells B.out (by have:=ORD.out;omega) [.int .i64 L,.int .i64 (chunkF L)] 13)
   clear HZ HK HS HG Hg PB B HX CH
   generalize ((w2.setCell ⟨Z,13,none⟩ (.int .i64 L)).setCell ⟨Z,14,none⟩ (.int .i64 (chunkF L)))=w3 at *
   have ME:=Lib.hid (fun w hg=>MEncode_any (M.of L) (okM_of OM.out (by omega)) w hg)
   go_wp2_with (refine wpList_load_mid rfl 27 _ rfl Z 0 rfl (cM (M.of L)) _ HZ2.out.cell Tryz.underlying27 rfl (by kernel_rfl) ?_)
   go_at_call 26
   refine (ME.out _ Hg2.out).mono ?_
   rintro e w4 ⟨v,rfl,hrow,hb⟩
   obtain⟨pt,ct,rfl,htc,htx,hty⟩:=hrow
   replace HG2:=Lib.hid (HG2.out.later hb)
   replace HK2:=Lib.hid (HK2.out.later hb)
   replace HS2:=Lib.hid (HS2.out.later hb)
   replace PB2:=Lib.hid (PB2.out.later hb)
   replace B2:=Lib.hid (Below.go B2.out hb)
   have TB:=Lib.hid hty
   clear hb hty ME HZ2 Hg2
   obtain⟨em,hem⟩:∃ z,z=chkN (M.of L):=⟨_,rfl⟩
   rw[← hem] at TB htc ⊢
   have EM:=Lib.hid hem
   clear hem
   by_cases h2:em=0
   ·subst h2
    have SE:selE M A=0:=by unfold selE;rw[if_neg (by rw[← EA.out];decide),if_neg (by rw[h1];simp),← EL.out,← EM.out]
    simp only[gencL,if_true] at TB htc ⊢
    go_wp2_with (refine wpList_conv rfl _ rfl rfl ?_)
    have hmk:=mark_byt w4
    obtain⟨w5,MK,eW,eX,hMB,hB5⟩:∃ W X,w4.alloc (.cells #[.int .u8 85,.int .u8 77,.int .u8 66,.int .u8 49] 5 (4,5))=W∧w4.heap.size=X∧Byt W (some ⟨X,0,none⟩) 4 markF∧Below w4.heap.size w4 W:=⟨_,_,rfl,rfl,hmk,Below.al (Below.refl _ _)⟩
    have S5:w5.heap.size=MK+1:=by rw[← eW,World.size_alloc,eX]
    rw[eW,eX]
    obtain⟨w6,LB,eW6,eX6,HLB,B6,_,_⟩:=al1 w5 (MK+1) #[.slice (some ⟨MK,0,none⟩) 4 4,.slice (some ⟨S,0,none⟩) 8 8,.slice pt 35 ct] 47 [.slice (some ⟨MK,0,none⟩) 4 4,.slice (some ⟨S,0,none⟩) 8 8,.slice pt 35 ct] S5 rfl
    rw[eW6,eX6]
    have hb:=Below.go hB5 B6.out
    have MB:=Lib.hid (hMB.later B6.out)
    replace HG2:=Lib.hid (HG2.out.later hb)
    replace HK2:=Lib.hid (HK2.out.later hb)
    replace HS2:=Lib.hid (HS2.out.later hb)
    replace PB2:=Lib.hid (PB2.out.later hb)
    replace TB:=Lib.hid (TB.out.later hb)
    replace B2:=Lib.hid (Below.go B2.out hb)
    clear eW eX eW6 eX6 hMB hB5 hmk S5 B6 hb
    have C6:=Lib.hid (And.intro HG2.out (And.intro HK2.out (And.intro HS2.out (And.intro PB2.out B2.out))))
    have HEAD:=Lib.hid (parts3 (g:=headF b (encM (M.of L))) HLB.out (byt_eq MB.out fun j hj=>by rw[Nat.zero_add];unfold headF;rw[if_pos hj]) (.inr ⟨S,0,rfl,by
     rw[nums_congr .u8 (g:=b) (fun j hj=>by unfold headF;rw[if_neg (by omega),if_pos (by omega),show 4+j - 4=j by omega])]
     exact HS2.out.has⟩) (byt_eq TB.out fun j hj=>by unfold headF;rw[if_neg (by omega),if_neg (by omega),show 4+8+j - 12=j by omega]) (by decide) (by decide) ⟨htc,htx⟩)
    go_at_call 27
    refine (Concat_any _ 3 3 (headF b (encM (M.of L))) _ rfl (fun k _=>Nat.le_trans (T3_le 4 8 35 k) (by decide)) (Nat.le_refl _) (by decide) _ HEAD.out).mono ?_
    rintro e w7 ⟨v,rfl,hrow,hb⟩
    replace hrow:w7.ownsRow w6.heap.size 5 1 v 47 (nums .u8 (headF b (encM (M.of L))) 47):=hrow
    have S67:=Lib.hid hb.size
    obtain⟨ph,ch,rfl,hch⟩:=row_form hrow
    have RH:=Lib.hid hrow;have B67:=Lib.hid hb;have SW6:=Lib.hid (Nat.le_trans (show K<w6.heap.size from HK2.out.lt) (Nat.le_refl _));have SS6:=Lib.hid (show S<w6.heap.size from HS2.out.lt)
    have RN:=Lib.hid (fun X (hX:w7.heap.size≤X)=>row_new hrow hX)
    replace HG2:=Lib.hid (HG2.out.later hb)
    replace HK2:=Lib.hid (HK2.out.later hb)
    replace HS2:=Lib.hid (HS2.out.later hb)
    replace PB2:=Lib.hid (PB2.out.later hb)
    replace B2:=Lib.hid (Below.go B2.out hb)
    clear HLB MB TB HEAD hrow hb
    go_upto_region 11 with fail
    have SZ7:=Lib.hid B2.out.size
    obtain⟨w8,P,eW,eX,HP,B8,PW,_⟩:=al1 w7 _ #[.slice ph 47 ch] 47 [.slice ph 47 ch] rfl rfl
    rw[eW,eX]
    have RH8:=Lib.hid (row_later RH.out B8.out)
    replace HG2:=Lib.hid (HG2.out.later B8.out)
    replace HK2:=Lib.hid (HK2.out.later B8.out)
    replace HS2:=Lib.hid (HS2.out.later B8.out)
    replace PB2:=Lib.hid (PB2.out.later B8.out)
    replace B2:=Lib.hid (Below.go B2.out B8.out)
    replace B67:=Lib.hid (Below.go B67.out B8.out);have B67W:=Lib.hid B67.out.size
    have HH:=Lib.hid (byt_row RH8.out).2;have HC:=Lib.hid (row_cap_ RH8.out)
    have LIN:Hid (P<w8.heap.size∧w.heap.size≤P):=Lib.hid ⟨HP.out.lt,Nat.le_trans SZ7.out PW.out⟩
    clear eW eX B8 RH
    have SC:=Lib.hid (fun w hG hp=>Seal_any kf (nonF b 0) (headF b (encM (M.of L))) (fun _=>0) ph none 47 0 ch 0 FK.out (fun j _=>in_nonF FB.out 0 j) (fun j hj=>in_headF FB.out (fun j _=>okM_enc (okM_of OM.out (by omega)) j) j hj) (fun _ _=>by unfold inB;omega) (by decide) (by decide) HC.out.1 (Nat.le_refl _) HC.out.2 (by decide) w hG hp (.inl rfl))
    have NC:=Lib.hid (fun w=>Nonce_any b 0 FB.out w)
    refine wp_mono (Q:=onN fun a' w'=>∃ (T:Nat) (tq:Option Addr) (tc:Nat),a'=⟨((.agg (nums .u8 kf 32).toArray) :: (.agg (nums .u8 b 8).toArray) :: (.agg (cM M).toArray) :: (.agg (cA A).toArray) :: (.pointer (some ⟨K,0,none⟩)) :: (.pointer (some ⟨S,0,none⟩)) :: (.pointer (some ⟨Z,0,none⟩)) :: (.pointer (some ⟨X,0,none⟩)) :: (.slice none 0 0) :: (.int .i64 0) :: (.slice pq L pc) :: (.int .i64 0) :: (.slice pt 35 ct) :: (.pointer (some ⟨P,0,none⟩)) :: (.pointer (some ⟨T,0,none⟩)) :: (.int .i64 0) :: undef :: undef :: undef :: undef :: undef :: (.tuple #[.slice pq L pc,.int .i64 0]) :: (.agg (cA A).toArray) :: (.tuple #[.slice pq L pc,.int .i64 0]) :: (.slice pq L pc) :: (.int .i64 0) :: (.int .i64 0) :: (.bool false) :: undef :: (.pointer (some ⟨Z,1,none⟩)) :: (.int .i64 A.k) :: (.pointer (some ⟨X,0,none⟩)) :: (.int .i64 A.k) :: (.bool false) :: (.slice pq L pc) :: (.int .i64 (L:Nat)) :: (.slice pq L pc) :: (.int .i64 (L:Nat)) :: (.int .i64 (chunkF (L:Nat))) :: (.pointer (some ⟨Z,13,none⟩)) :: (.pointer (some ⟨Z,14,none⟩)) :: (.tuple #[.slice pt 35 ct,.int .i64 0]) :: (.agg (cM (M.of L)).toArray) :: (.tuple #[.slice pt 35 ct,.int .i64 0]) :: (.slice pt 35 ct) :: (.int .i64 0) :: (.int .i64 0) :: (.bool false) :: undef :: (.slice (some ⟨MK,0,none⟩) 4 4) :: (.slice (some ⟨MK,0,none⟩) 4 4) :: (.slice (some ⟨S,0,none⟩) 8 8) :: (.slice pt 35 ct) :: (.slice (some ⟨LB,0,none⟩) 3 3) :: (.slice ph 47 ch) :: (.tuple #[.slice tq 16 tc,.int .i64 0]) :: (.agg (nums .u8 kf 32).toArray) :: (.agg (nums .u8 b 8).toArray) :: (.agg (nums .u8 (nonF b 0) 12).toArray) :: (.slice ph 47 ch) :: (.tuple #[.slice tq 16 tc,.int .i64 0]) :: (.slice tq 16 tc) :: (.int .i64 0) :: undef :: undef :: undef :: undef :: undef :: undef :: undef :: undef :: undef :: undef :: undef :: undef :: undef :: undef :: undef :: undef :: undef :: undef :: undef :: undef :: undef :: undef :: undef :: undef :: undef :: undef :: undef :: undef :: undef :: []).toArray,[]⟩∧Own T [.slice tq 16 tc] w'∧Byt w' tq 16 (tagB kf b (encM (M.of L)))∧(16≤tc∧tc≤9223372036854775807)∧Below w8.heap.size w8 w'∧w8.heap.size≤T∧(∀ b o,tq=some ⟨b,o,none⟩→w8.heap.size≤b)) ?_ ?_
    ·refine wp_region_held_drew (S:=fun w'=>Below w8.heap.size w8 w') (by kernel_rfl) (Below.refl _ _).drew (fun hb0_=>?_)
     generalize w8.drew=z0 at *
     refine wpAnyH_take (i:=0) (v := .agg (nums .u8 kf 32).toArray) rfl (by kernel_rfl) (by kernel_rfl) (by kernel_rfl) (fun _ _ _ h=>h) (yieldsIf_load_mid (by rfl) 22 _ rfl K 0 rfl (nums .u8 kf 32) _ (fun w h=>(HK2.out.later h).cell) Tryz.underlying22 rfl (by kernel_rfl)) (by assumption) ?_
     try simp only[Act.put,List.getElem_toArray,List.getElem_cons_zero,List.getElem_cons_succ,List.setIfInBounds_toArray,List.set_cons_zero,List.set_cons_succ]
     refine wpAnyH_take (i:=1) (v := .agg (nums .u8 b 8).toArray) rfl (by kernel_rfl) (by kernel_rfl) (by kernel_rfl) (fun _ _ _ h=>h) (yieldsIf_load_mid (by rfl) 23 _ rfl S 0 rfl (nums .u8 b 8) _ (fun w h=>(HS2.out.later h).cell) Tryz.underlying23 rfl (by kernel_rfl)) (by assumption) ?_
     try simp only[Act.put,List.getElem_toArray,List.getElem_cons_zero,List.getElem_cons_succ,List.setIfInBounds_toArray,List.set_cons_zero,List.set_cons_succ]
     refine wpAnyH_take (i:=3) (v := .slice ph 47 ch) rfl (by kernel_rfl) (by kernel_rfl) (by kernel_rfl) (fun _ _ _ h=>h) (Or.inl ⟨by rfl,fun w' hS=>?_⟩) (by assumption) ?_
     ·have t0:=(HP.out.later hS).at 0 _ rfl;have tl:=(HP.out.later hS).lt;go_simp
     try simp only[Act.put,List.getElem_toArray,List.getElem_cons_zero,List.getElem_cons_succ,List.setIfInBounds_toArray,List.set_cons_zero,List.set_cons_succ]
     refine wpAnyH_ready (rs:=[2,8]) (by kernel_rfl) (by simp) ?_
     refine (AllReadyH.cons rfl (fun K_ hK=>?_) (AllReadyH.cons rfl (fun K_ hK=>?_) AllReadyH.nil))
     ·go_simp
      go_at_call 13
      refine (NC.out _).mono ?_
      rintro e u2 ⟨rfl,h1⟩
      have b2:=Below.go hb0_ h1
      clear h1
      refine hK.out _ _ b2 (fun _=>?_)
      clear hK K_
      try simp only[Act.put,List.getElem_toArray,List.getElem_cons_zero,List.getElem_cons_succ,List.setIfInBounds_toArray,List.set_cons_zero,List.set_cons_succ]
      refine wpAnyH_ready (rs:=[4,8]) (by kernel_rfl) (by simp) ?_
      refine (AllReadyH.cons rfl (fun K_ hK=>?_) (AllReadyH.cons rfl (fun K_ hK=>?_) AllReadyH.nil))
      ·go_simp
       go_at_call 28
       refine (SC.out _ (HG2.out.later b2) (HH.out.later b2)).mono ?_
       rintro e u2_4 ⟨v,rfl,hrow,h1⟩
       have b2_4:=Below.go b2 h1
       obtain⟨tq,tc,rfl,_⟩:=row_form hrow
       have QN:=Lib.hid (fun b o (e:tq=some ⟨b,o,none⟩)=>Nat.le_trans b2.size (row_ge hrow b (by rw[e];rfl)))
       have R9:=Lib.hid (byt_row hrow).2;have C9:=Lib.hid (row_cap_ hrow)
       clear hrow
       clear h1
       refine hK.out _ _ b2_4 (fun _=>?_)
       clear hK K_
       try simp only[Act.put,List.getElem_toArray,List.getElem_cons_zero,List.getElem_cons_succ,List.setIfInBounds_toArray,List.set_cons_zero,List.set_cons_succ]
       refine wpAnyH_take (i:=5) (v:=?_) rfl (by kernel_rfl) (by kernel_rfl) (by kernel_rfl) (fun _ _ _ h=>h) (Or.inl ⟨by rfl,?_⟩) (by assumption) ?_
       rotate_left
       ·intro w' hS;go_simp;try (with_reducible rfl)
       try simp only[Act.put,List.getElem_toArray,List.getElem_cons_zero,List.getElem_cons_succ,List.setIfInBounds_toArray,List.set_cons_zero,List.set_cons_succ]
       refine wpAnyH_take (i:=6) (v:=?_) rfl (by kernel_rfl) (by kernel_rfl) (by kernel_rfl) (fun _ _ _ h=>h) (Or.inl ⟨by rfl,?_⟩) (by assumption) ?_
       rotate_left
       ·intro w' hS;go_simp;try (with_reducible rfl)
       try simp only[Act.put,List.getElem_toArray,List.getElem_cons_zero,List.getElem_cons_succ,List.setIfInBounds_toArray,List.set_cons_zero,List.set_cons_succ]
       refine wpAnyH_take (i:=7) (v:=?_) rfl (by kernel_rfl) (by kernel_rfl) (by kernel_rfl) (fun _ _ _ h=>h) (Or.inl ⟨by rfl,?_⟩) (by assumption) ?_
       rotate_left
       ·intro w' hS;go_simp;try (with_reducible rfl)
       try simp only[Act.put,List.getElem_toArray,List.getElem_cons_zero,List.getElem_cons_succ,List.setIfInBounds_toArray,List.set_cons_zero,List.set_cons_succ]
       refine wpAnyH_ready (rs:=[8]) (by kernel_rfl) (by simp) ?_
       refine (AllReadyH.cons rfl (fun K_ hK=>?_) AllReadyH.nil)
       go_simp
       obtain⟨u2_4_8,T,eW,eX,HT,h1_,TW,_⟩:=al1 u2_4 _ #[.slice none 0 0] 47 [.slice none 0 0] rfl rfl
       rw[eW,eX]
       clear eW eX
       have h1:=h1_.out;have TW8:=Lib.hid (Nat.le_trans b2_4.size TW.out)
       have b2_4_8:=Below.go b2_4 h1
       replace R9:=Lib.hid (R9.out.later h1)
       clear h1
       refine hK.out _ _ b2_4_8 (fun _=>?_)
       clear hK K_
       try simp only[Act.put,List.getElem_toArray,List.getElem_cons_zero,List.getElem_cons_succ,List.setIfInBounds_toArray,List.set_cons_zero,List.set_cons_succ]
       refine wpAnyH_ready (rs:=[9]) (by kernel_rfl) (by simp) ?_
       refine (AllReadyH.cons rfl (fun K_ hK=>?_) AllReadyH.nil)
       have t0:=HT.out.at 0 _ rfl;have tf:=HT.out.ok 0 (by simp);have tl:=HT.out.lt
       go_simp
       have b2_4_8_9:Below w8.heap.size w8 (u2_4_8.setCell ⟨T,0,none⟩ (.slice tq 16 tc)):=Below.setCells b2_4_8 TW8.out [.slice tq 16 tc] 0
       have HT2:Hid (Own T [.slice tq 16 tc] (u2_4_8.setCell ⟨T,0,none⟩ (.slice tq 16 tc))):=Lib.hid (Own.store (vs:=[.slice tq 16 tc]) HT.out rfl)
       have R92:Hid (Byt (u2_4_8.setCell ⟨T,0,none⟩ (.slice tq 16 tc)) tq 16 (sealF kf (nonF b 0) (headF b (encM (M.of L))) 47 (fun _=>0) 0)):=Lib.hid (byt_cell (v := .slice tq 16 tc) R9.out HT.out)
       clear t0 tf tl HT R9
       generalize u2_4_8.setCell ⟨T,0,none⟩ (.slice tq 16 tc)=u2_4_8_9 at *
       refine hK.out _ _ b2_4_8_9 (fun _=>?_)
       clear hK K_
       try simp only[Act.put,List.getElem_toArray,List.getElem_cons_zero,List.getElem_cons_succ,List.setIfInBounds_toArray,List.set_cons_zero,List.set_cons_succ]
       refine wpAnyH_take (i:=10) (v:=?_) rfl (by kernel_rfl) (by kernel_rfl) (by kernel_rfl) (fun _ _ _ h=>h) (Or.inl ⟨by rfl,?_⟩) (by assumption) ?_
       rotate_left
       ·intro w' hS;go_simp;try (with_reducible rfl)
       try simp only[Act.put,List.getElem_toArray,List.getElem_cons_zero,List.getElem_cons_succ,List.setIfInBounds_toArray,List.set_cons_zero,List.set_cons_succ]
       refine wpAnyH_done (by kernel_rfl) ?_ _
       exact⟨T,tq,tc,rfl,HT2.out,byt_eq R92.out (fun j _=>rfl),C9.out,b2_4_8_9,TW8.out,QN.out⟩
      ·go_simp
       obtain⟨u2_8,T,eW,eX,HT,h1_,TW,_⟩:=al1 u2 _ #[.slice none 0 0] 47 [.slice none 0 0] rfl rfl
       rw[eW,eX]
       clear eW eX
       have h1:=h1_.out;have TW8:=Lib.hid (Nat.le_trans b2.size TW.out)
       have b2_8:=Below.go b2 h1
       clear h1
       refine hK.out _ _ b2_8 (fun _=>?_)
       clear hK K_
       try simp only[Act.put,List.getElem_toArray,List.getElem_cons_zero,List.getElem_cons_succ,List.setIfInBounds_toArray,List.set_cons_zero,List.set_cons_succ]
       refine wpAnyH_ready (rs:=[4]) (by kernel_rfl) (by simp) ?_
       refine (AllReadyH.cons rfl (fun K_ hK=>?_) AllReadyH.nil)
       go_simp
       go_at_call 28
       refine (SC.out _ (HG2.out.later b2_8) (HH.out.later b2_8)).mono ?_
       rintro e u2_8_4 ⟨v,rfl,hrow,h1⟩
       have b2_8_4:=Below.go b2_8 h1
       replace HT:=Lib.hid (HT.out.later h1)
       obtain⟨tq,tc,rfl,_⟩:=row_form hrow
       have QN:=Lib.hid (fun b o (e:tq=some ⟨b,o,none⟩)=>Nat.le_trans b2_8.size (row_ge hrow b (by rw[e];rfl)))
       have R9:=Lib.hid (byt_row hrow).2;have C9:=Lib.hid (row_cap_ hrow)
       clear hrow
       clear h1
       refine hK.out _ _ b2_8_4 (fun _=>?_)
       clear hK K_
       try simp only[Act.put,List.getElem_toArray,List.getElem_cons_zero,List.getElem_cons_succ,List.setIfInBounds_toArray,List.set_cons_zero,List.set_cons_succ]
       refine wpAnyH_take (i:=5) (v:=?_) rfl (by kernel_rfl) (by kernel_rfl) (by kernel_rfl) (fun _ _ _ h=>h) (Or.inl ⟨by rfl,?_⟩) (by assumption) ?_
       rotate_left
       ·intro w' hS;go_simp;try (with_reducible rfl)
       try simp only[Act.put,List.getElem_toArray,List.getElem_cons_zero,List.getElem_cons_succ,List.setIfInBounds_toArray,List.set_cons_zero,List.set_cons_succ]
       refine wpAnyH_take (i:=6) (v:=?_) rfl (by kernel_rfl) (by kernel_rfl) (by kernel_rfl) (fun _ _ _ h=>h) (Or.inl ⟨by rfl,?_⟩) (by assumption) ?_
       rotate_left
       ·intro w' hS;go_simp;try (with_reducible rfl)
       try simp only[Act.put,List.getElem_toArray,List.getElem_cons_zero,List.getElem_cons_succ,List.setIfInBounds_toArray,List.set_cons_zero,List.set_cons_succ]
       refine wpAnyH_take (i:=7) (v:=?_) rfl (by kernel_rfl) (by kernel_rfl) (by kernel_rfl) (fun _ _ _ h=>h) (Or.inl ⟨by rfl,?_⟩) (by assumption) ?_
       rotate_left
       ·intro w' hS;go_simp;try (with_reducible rfl)
       try simp only[Act.put,List.getElem_toArray,List.getElem_cons_zero,List.getElem_cons_succ,List.setIfInBounds_toArray,List.set_cons_zero,List.set_cons_succ]
       refine wpAnyH_ready (rs:=[9]) (by kernel_rfl) (by simp) ?_
       refine (AllReadyH.cons rfl (fun K_ hK=>?_) AllReadyH.nil)
       have t0:=HT.out.at 0 _ rfl;have tf:=HT.out.ok 0 (by simp);have tl:=HT.out.lt
       go_simp
       have b2_8_4_9:Below w8.heap.size w8 (u2_8_4.setCell ⟨T,0,none⟩ (.slice tq 16 tc)):=Below.setCells b2_8_4 TW8.out [.slice tq 16 tc] 0
       have HT2:Hid (Own T [.slice tq 16 tc] (u2_8_4.setCell ⟨T,0,none⟩ (.slice tq 16 tc))):=Lib.hid (Own.store (vs:=[.slice tq 16 tc]) HT.out rfl)
       have R92:Hid (Byt (u2_8_4.setCell ⟨T,0,none⟩ (.slice tq 16 tc)) tq 16 (sealF kf (nonF b 0) (headF b (encM (M.of L))) 47 (fun _=>0) 0)):=Lib.hid (byt_cell (v := .slice tq 16 tc) R9.out HT.out)
       clear t0 tf tl HT R9
       generalize u2_8_4.setCell ⟨T,0,none⟩ (.slice tq 16 tc)=u2_8_4_9 at *
       refine hK.out _ _ b2_8_4_9 (fun _=>?_)
       clear hK K_
       try simp only[Act.put,List.getElem_toArray,List.getElem_cons_zero,List.getElem_cons_succ,List.setIfInBounds_toArray,List.set_cons_zero,List.set_cons_succ]
       refine wpAnyH_take (i:=10) (v:=?_) rfl (by kernel_rfl) (by kernel_rfl) (by kernel_rfl) (fun _ _ _ h=>h) (Or.inl ⟨by rfl,?_⟩) (by assumption) ?_
       rotate_left
       ·intro w' hS;go_simp;try (with_reducible rfl)
       try simp only[Act.put,List.getElem_toArray,List.getElem_cons_zero,List.getElem_cons_succ,List.setIfInBounds_toArray,List.set_cons_zero,List.set_cons_succ]
       refine wpAnyH_done (by kernel_rfl) ?_ _
       exact⟨T,tq,tc,rfl,HT2.out,byt_eq R92.out (fun j _=>rfl),C9.out,b2_8_4_9,TW8.out,QN.out⟩
     ·go_simp
      obtain⟨u8,T,eW,eX,HT,h1_,TW,_⟩:=al1 z0 _ #[.slice none 0 0] 47 [.slice none 0 0] rfl rfl
      rw[eW,eX]
      clear eW eX
      have h1:=h1_.out;have TW8:=Lib.hid (Nat.le_trans hb0_.size TW.out)
      have b8:=Below.go hb0_ h1
      clear h1
      refine hK.out _ _ b8 (fun _=>?_)
      clear hK K_
      try simp only[Act.put,List.getElem_toArray,List.getElem_cons_zero,List.getElem_cons_succ,List.setIfInBounds_toArray,List.set_cons_zero,List.set_cons_succ]
      refine wpAnyH_ready (rs:=[2]) (by kernel_rfl) (by simp) ?_
      refine (AllReadyH.cons rfl (fun K_ hK=>?_) AllReadyH.nil)
      go_simp
      go_at_call 13
      refine (NC.out _).mono ?_
      rintro e u8_2 ⟨rfl,h1⟩
      have b8_2:=Below.go b8 h1
      replace HT:=Lib.hid (HT.out.later h1)
      clear h1
      refine hK.out _ _ b8_2 (fun _=>?_)
      clear hK K_
      try simp only[Act.put,List.getElem_toArray,List.getElem_cons_zero,List.getElem_cons_succ,List.setIfInBounds_toArray,List.set_cons_zero,List.set_cons_succ]
      refine wpAnyH_ready (rs:=[4]) (by kernel_rfl) (by simp) ?_
      refine (AllReadyH.cons rfl (fun K_ hK=>?_) AllReadyH.nil)
      go_simp
      go_at_call 28
      refine (SC.out _ (HG2.out.later b8_2) (HH.out.later b8_2)).mono ?_
      rintro e u8_2_4 ⟨v,rfl,hrow,h1⟩
      have b8_2_4:=Below.go b8_2 h1
      replace HT:=Lib.hid (HT.out.later h1)
      obtain⟨tq,tc,rfl,_⟩:=row_form hrow
      have QN:=Lib.hid (fun b o (e:tq=some ⟨b,o,none⟩)=>Nat.le_trans b8_2.size (row_ge hrow b (by rw[e];rfl)))
      have R9:=Lib.hid (byt_row hrow).2;have C9:=Lib.hid (row_cap_ hrow)
      clear hrow
      clear h1
      refine hK.out _ _ b8_2_4 (fun _=>?_)
      clear hK K_
      try simp only[Act.put,List.getElem_toArray,List.getElem_cons_zero,List.getElem_cons_succ,List.setIfInBounds_toArray,List.set_cons_zero,List.set_cons_succ]
      refine wpAnyH_take (i:=5) (v:=?_) rfl (by kernel_rfl) (by kernel_rfl) (by kernel_rfl) (fun _ _ _ h=>h) (Or.inl ⟨by rfl,?_⟩) (by assumption) ?_
      rotate_left
      ·intro w' hS;go_simp;try (with_reducible rfl)
      try simp only[Act.put,List.getElem_toArray,List.getElem_cons_zero,List.getElem_cons_succ,List.setIfInBounds_toArray,List.set_cons_zero,List.set_cons_succ]
      refine wpAnyH_take (i:=6) (v:=?_) rfl (by kernel_rfl) (by kernel_rfl) (by kernel_rfl) (fun _ _ _ h=>h) (Or.inl ⟨by rfl,?_⟩) (by assumption) ?_
      rotate_left
      ·intro w' hS;go_simp;try (with_reducible rfl)
      try simp only[Act.put,List.getElem_toArray,List.getElem_cons_zero,List.getElem_cons_succ,List.setIfInBounds_toArray,List.set_cons_zero,List.set_cons_succ]
      refine wpAnyH_take (i:=7) (v:=?_) rfl (by kernel_rfl) (by kernel_rfl) (by kernel_rfl) (fun _ _ _ h=>h) (Or.inl ⟨by rfl,?_⟩) (by assumption) ?_
      rotate_left
      ·intro w' hS;go_simp;try (with_reducible rfl)
      try simp only[Act.put,List.getElem_toArray,List.getElem_cons_zero,List.getElem_cons_succ,List.setIfInBounds_toArray,List.set_cons_zero,List.set_cons_succ]
      refine wpAnyH_ready (rs:=[9]) (by kernel_rfl) (by simp) ?_
      refine (AllReadyH.cons rfl (fun K_ hK=>?_) AllReadyH.nil)
      have t0:=HT.out.at 0 _ rfl;have tf:=HT.out.ok 0 (by simp);have tl:=HT.out.lt
      go_simp
      have b8_2_4_9:Below w8.heap.size w8 (u8_2_4.setCell ⟨T,0,none⟩ (.slice tq 16 tc)):=Below.setCells b8_2_4 TW8.out [.slice tq 16 tc] 0
      have HT2:Hid (Own T [.slice tq 16 tc] (u8_2_4.setCell ⟨T,0,none⟩ (.slice tq 16 tc))):=Lib.hid (Own.store (vs:=[.slice tq 16 tc]) HT.out rfl)
      have R92:Hid (Byt (u8_2_4.setCell ⟨T,0,none⟩ (.slice tq 16 tc)) tq 16 (sealF kf (nonF b 0) (headF b (encM (M.of L))) 47 (fun _=>0) 0)):=Lib.hid (byt_cell (v := .slice tq 16 tc) R9.out HT.out)
      clear t0 tf tl HT R9
      generalize u8_2_4.setCell ⟨T,0,none⟩ (.slice tq 16 tc)=u8_2_4_9 at *
      refine hK.out _ _ b8_2_4_9 (fun _=>?_)
      clear hK K_
      try simp only[Act.put,List.getElem_toArray,List.getElem_cons_zero,List.getElem_cons_succ,List.setIfInBounds_toArray,List.set_cons_zero,List.set_cons_succ]
      refine wpAnyH_take (i:=10) (v:=?_) rfl (by kernel_rfl) (by kernel_rfl) (by kernel_rfl) (fun _ _ _ h=>h) (Or.inl ⟨by rfl,?_⟩) (by assumption) ?_
      rotate_left
      ·intro w' hS;go_simp;try (with_reducible rfl)
      try simp only[Act.put,List.getElem_toArray,List.getElem_cons_zero,List.getElem_cons_succ,List.setIfInBounds_toArray,List.set_cons_zero,List.set_cons_succ]
      refine wpAnyH_done (by kernel_rfl) ?_ _
      exact⟨T,tq,tc,rfl,HT2.out,byt_eq R92.out (fun j _=>rfl),C9.out,b8_2_4_9,TW8.out,QN.out⟩
    rintro e a' wz hz
    cases e<;>first | exact hz.elim | skip
    obtain⟨T,tq,tc,rfl,hT,hB,hc,hb,hTW,hQN⟩:=hz
    have SZ8:=Lib.hid (show w7.heap.size≤w8.heap.size∧P<w8.heap.size from ⟨Nat.le_trans PW.out (Nat.le_of_lt HP.out.lt),HP.out.lt⟩)
    replace HP:=Lib.hid (HP.out.later hb);replace RH8:=Lib.hid (row_later RH8.out hb);replace B67:=Lib.hid (Below.go B67.out hb)
    have HT:=Lib.hid hT;have TB:=Lib.hid hB;have TC:=Lib.hid hc;have TW:=Lib.hid hTW;have QN:=Lib.hid hQN
    clear hT hB hc hb hTW hQN HG2 HK2 HS2 PB2 B2 HH HC SC NC
    have p0:=HP.out.at 0 _ rfl;have pl:=HP.out.lt;have pf:=HP.out.ok 0 (by simp);have t0:=HT.out.at 0 _ rfl;have tl:=HT.out.lt
    go_upto_region 12 with fail
    go_wp2_with (at_builtin;refine wpList_append_b rfl _ _ rfl w6.heap.size _ 47 _ rfl RH8.out tq 16 tc _ rfl TB.out (by decide) B67.out.size ?_;intro v' w9 hrow hgr;obtain⟨p9,c9,rfl,_⟩:=row_form hrow;have R9:=Lib.hid hrow;have GR:=Lib.hid hgr;replace p0:=(HP.out.grown hgr (RN.out _ PW.out)).at 0 _ rfl;replace pf:=(HP.out.grown hgr (RN.out _ PW.out)).ok 0 (by simp);replace pl:=(HP.out.grown hgr (RN.out _ PW.out)).lt;clear hrow hgr)
    have JJ:Hid (SeJ w kf b (encM (M.of L)) (encA A) L K S T P pq tq tc 0 (w9.setCell ⟨P,0,none⟩ (.slice p9 63 c9))):=Lib.hid (by
     have gr:=GR.out
     have b9:=Below.gro B67.out gr RH8.out (Nat.le_refl _)
     have hP9:=HP.out.grown gr (RN.out _ PW.out)
     obtain⟨c1,c2,c3,c4,c5⟩:=C6.out
     have o1:=ORD.out;have o2:=LIN.out;have o3:=SW6.out;have o4:=SS6.out;have o5:=PW.out;have o6:=SZ8.out;have o7:=TW.out;have o8:=c1.lt;have o9:=B67W.out;have o10:=S67.out
     have r9:=R9.out
     rw[nums_congr .u8 (f:=headF b (encM (M.of L))) (g:=bunF kf b (encM (M.of L)) (encA A) L) (fun j hj=>by unfold bunF topF;rw[if_pos (by omega),if_pos hj]),nums_append .u8 (bunF kf b (encM (M.of L)) (encA A) L) (tagB kf b (encM (M.of L))) 47 16 (fun j hj=>by unfold bunF topF;rw[if_pos (by omega),if_neg (by omega),show 47+j - 47=j by omega])] at r9
     have hc9:=row_cap_ r9
     have e0:bunA L 0=63:=by unfold bunA;omega
     refine⟨(c2.later b9).far (c:=P) (o:=0) (vs:=[_]) (by omega),(c3.later b9).far (c:=P) (o:=0) (vs:=[_]) (by omega),(c1.later b9).far (c:=P) (o:=0) (vs:=[_]) (by omega),(HT.out.grown gr (RN.out _ (by omega))).far (c:=P) (o:=0) (vs:=[_]) (by omega),byt_cell (byt_grown TB.out gr QN.out (fun b h=>?_)) hP9,byt_cell (c4.later b9) hP9,?_,Below.setCells (Below.go c5 b9) o2.2 [_] 0⟩
     ·exact Nat.lt_of_not_le fun h2=>RN.out b (Nat.le_trans o6.1 h2) h
     ·rw[e0];exact⟨p9,c9,Own.store (vs:=[_]) hP9 rfl,byt_cell (byt_row r9).2 hP9,hc9⟩)
    have NE:Hid ((K≠P∧S≠P∧1≠P∧T≠P)∧w.heap.size≤P):=Lib.hid (by
     obtain⟨c1,_⟩:=C6.out
     have o1:=ORD.out;have o2:=LIN.out;have o3:=SW6.out;have o4:=SS6.out;have o5:=PW.out;have o6:=SZ8.out;have o7:=TW.out;have o8:=c1.lt;have o9:=B67W.out;have o10:=S67.out
     refine⟨⟨?_,?_,?_,?_⟩,o2.2⟩<;>omega)
    have HWS:Hid (w.heap.size≤(w9.setCell ⟨P,0,none⟩ (.slice p9 63 c9)).heap.size):=Lib.hid (JJ.out.hz.size)
    clear p0 pl pf t0 tl GR R9 HP RH8 B67 C6 ORD SW6 SS6 PW SZ8 TW QN TB HT RN B67W SZ7 LIN
    generalize (w9.setCell ⟨P,0,none⟩ (.slice p9 63 c9))=w10 at *
    refine (chunks_any _ L pc _).mono ?_
    rintro e w11 ⟨C,rfl,hC,hown,hb⟩
    have HC:=Lib.hid hown
    replace JJ:=Lib.hid (JJ.out.later hb);replace HWS:=Lib.hid (Nat.le_trans HWS.out hb.size)
    obtain⟨D,o,hpq⟩:∃ D o,L=0∨pq=some ⟨D,o,none⟩:=by
     rcases JJ.out.hb with h | ⟨D,o,h,_⟩
     ·exact⟨0,0,.inl h⟩
     ·exact⟨D,o,.inr h⟩
    have PQ:=Lib.hid hpq
    clear hC hown hb hpq
    go_wp2_with (fail)
    refine wpIn_wide.1 (range_stop (n:=6) (gf:=61) (lb:=#[.pointer (some ⟨C,0,none⟩)]) rfl (fun _ _=>rfl) (encs:=fun x:Nat=>#[.int .i64 x,.slice (some ⟨D,o+256*x,none⟩) (chL L x) (chL L x)]) (fun _=>rfl)
     (fun W=>SeJ w kf b (encM (M.of L)) (encA A) L K S T P pq tq tc 0 W∧Own C [.slice pq L pc] W) (fun k W=>SeJ w kf b (encM (M.of L)) (encA A) L K S T P pq tq tc k W) (fun k x=>x=k∧k<chN L) (fun k _=>k+1) (fun W=>SeJ w kf b (encM (M.of L)) (encA A) L K S T P pq tq tc (chN L) W) (fun _=>False) ?h0 ?hJ ?hD ?hS ?hround ?hiter ?hdone ?hstop)
    case h0=>exact fun a b=>⟨(JJ.out.later (Below.al (Below.refl _ _))).later (Below.al (Below.refl _ _)),HC.out.alloc.alloc⟩
    case hJ=>exact fun k W l ob h hl ho=>h.odd (Nat.le_trans HWS.out hl) ho
    case hD=>exact fun W l ob h hl ho=>h.odd (Nat.le_trans HWS.out hl) ho
    case hS=>exact fun W l ob h hl ho=>h
    case hiter=>exact fun l Bk Bx W1 _ hBk b1 hI hY=>chunk_in 5 C L pc D o pq PQ.out CP.out.1 CP.out.2 (by have:=hl;omega) l Bk Bx (fun k W=>SeJ w kf b (encM (M.of L)) (encA A) L K S T P pq tq tc k W) _ W1 hI.2 b1 hI.1 (fun k W b j h=>hY k k W b j ⟨rfl,h⟩)
    case hround =>
     clear JJ HC
     rintro l k x W hlt hj ⟨hx,hk⟩ hodd
     subst hx
     have OD:=Lib.hid hodd;have HJ:=Lib.hid hj;have HK:=Lib.hid hk
     have lW:w.heap.size≤l:=by have:=HWS.out;omega
     clear hk hj hlt hodd
     gi_wp2
     refine⟨⟨Nat.le_refl _,fun i ob hi _=>hi⟩,fun ob=>?_⟩
     have J2:=Lib.hid (HJ.out.odd (ob:=ob) lW OD.out)
     clear OD HJ lW
     generalize W.putObj l ob=W2 at *
     have hx64:=Lib.hid (show x<256 by have:=HK.out;unfold chN at this;omega)
     have FR:=Lib.hid (fun w=>front_any x (chL L x) (chL L x) (some ⟨D,o+256*x,none⟩) (by have:=hx64.out;omega) (by unfold chL;omega) w)
     gi_wp2
     refine⟨trivial,?_⟩
     gi_at_call 30
     refine (CallsIn.inRound l (callsIn_wide.2 (FR.out _))).mono ?_
     rintro e z1 ⟨v1,rfl,hrow,hb⟩
     obtain⟨p1,c1,rfl,_⟩:=row_form hrow
     have BY1:=Lib.hid (byt_row hrow).2;have cap1:=Lib.hid (row_cap_ hrow)
     have KO:=Lib.hid (ko_below hb)
     replace J2:=Lib.hid (J2.out.later hb)
     clear hb hrow FR
     have CB:Hid (Byt z1 (some ⟨D,o+256*x,none⟩) (chL L x) fun r=>encA A (256*x+r)):=Lib.hid (by
      have hk:=HK.out
      rcases J2.out.hb with h | ⟨D',o',h,hh⟩
      ·unfold chN at hk;omega
      ·have e:=PQ.out.resolve_left (by unfold chN at hk;omega)
       rw[e] at h
       injection h with h;injection h with h1 h2 _
       subst h1;subst h2
       exact .inr ⟨D,_,rfl,has_drop hh (by unfold chL;unfold chN at hk;omega)⟩)
     gi_wp2
     have HK5:=Lib.hid J2.out.hk;have HS5:=Lib.hid J2.out.hs;have HT5:=Lib.hid J2.out.ht;have HG5:=Lib.hid J2.out.hg;have TB5:=Lib.hid J2.out.hy
     have hC:=Lib.hid (show 1≤chL L x∧chL L x≤256 by have:=HK.out;unfold chN at this;unfold chL;omega)
     have CN:=Lib.hid (fun w=>chunkNonce_any b x (by have:=hx64.out;omega) FB.out w)
     have SP:=Lib.hid (fun p7 c7 w h1 h2 hG hp hq=>Seal_any kf (nonF b (x+1)) (addF (tagB kf b (encM (M.of L))) x (chL L x)) (fun r=>encA A (256*x+r)) p7 (some ⟨D,o+256*x,none⟩) 20 (chL L x) c7 (chL L x) FK.out (fun j _=>in_nonF FB.out _ j) (fun j hj=>in_addF (fun j _=>in_tagB _ _ _ j) j hj) (fun j hj=>IA.out _ (by have:=HK.out;unfold chN at this;unfold chL at hj;omega)) (by decide) (by have:=hC.out;omega) h1 (Nat.le_refl _) h2 (by have:=hC.out;omega) w hG hp hq)
     have hb0_:Below z1.heap.size z1 z1.drew:=(Below.refl _ _).drew
     refine held_round (S:=fun w'=>Below z1.heap.size z1 w') (by kernel_rfl) (fun ⟨_,_,h⟩=>h) (by kernel_rfl) ?_
     generalize z1.drew=z7 at *
     refine wpAnyH_take (i:=0) (v := .agg (nums .u8 kf 32).toArray) rfl (by kernel_rfl) (by kernel_rfl) (by kernel_rfl) (fun _ _ _ h=>h) (yieldsIf_load_mid (by rfl) 22 _ rfl K 0 rfl (nums .u8 kf 32) _ (fun w h=>(HK5.out.later h).cell) Tryz.underlying22 rfl (by kernel_rfl)) (by assumption) ?_
     try simp only[Act.put,List.getElem_toArray,List.getElem_cons_zero,List.getElem_cons_succ,List.setIfInBounds_toArray,List.set_cons_zero,List.set_cons_succ]
     refine wpAnyH_take (i:=1) (v := .agg (nums .u8 b 8).toArray) rfl (by kernel_rfl) (by kernel_rfl) (by kernel_rfl) (fun _ _ _ h=>h) (yieldsIf_load_mid (by rfl) 23 _ rfl S 0 rfl (nums .u8 b 8) _ (fun w h=>(HS5.out.later h).cell) Tryz.underlying23 rfl (by kernel_rfl)) (by assumption) ?_
     try simp only[Act.put,List.getElem_toArray,List.getElem_cons_zero,List.getElem_cons_succ,List.setIfInBounds_toArray,List.set_cons_zero,List.set_cons_succ]
     refine wpAnyH_take (i:=2) (v:=?_) rfl (by kernel_rfl) (by kernel_rfl) (by kernel_rfl) (fun _ _ _ h=>h) (Or.inl ⟨by rfl,?_⟩) (by assumption) ?_
     rotate_left
     ·intro w' hS;go_simp;try (with_reducible rfl)
     try simp only[Act.put,List.getElem_toArray,List.getElem_cons_zero,List.getElem_cons_succ,List.setIfInBounds_toArray,List.set_cons_zero,List.set_cons_succ]
     refine wpAnyH_take (i:=4) (v:=?_) rfl (by kernel_rfl) (by kernel_rfl) (by kernel_rfl) (fun _ _ _ h=>h) (Or.inl ⟨by rfl,?_⟩) (by assumption) ?_
     rotate_left
     ·intro w' hS;go_simp;try (with_reducible rfl)
     try simp only[Act.put,List.getElem_toArray,List.getElem_cons_zero,List.getElem_cons_succ,List.setIfInBounds_toArray,List.set_cons_zero,List.set_cons_succ]
     refine wpAnyH_take (i:=5) (v := .slice tq 16 tc) rfl (by kernel_rfl) (by kernel_rfl) (by kernel_rfl) (fun _ _ _ h=>h) (Or.inl ⟨by rfl,fun w' hS=>?_⟩) (by assumption) ?_
     ·have t0:=(HT5.out.later hS).at 0 _ rfl;have tl:=(HT5.out.later hS).lt;go_simp
     try simp only[Act.put,List.getElem_toArray,List.getElem_cons_zero,List.getElem_cons_succ,List.setIfInBounds_toArray,List.set_cons_zero,List.set_cons_succ]
     refine wpAnyH_take (i:=8) (v:=?_) rfl (by kernel_rfl) (by kernel_rfl) (by kernel_rfl) (fun _ _ _ h=>h) (Or.inl ⟨by rfl,?_⟩) (by assumption) ?_
     rotate_left
     ·intro w' hS;go_simp;try (with_reducible rfl)
     try simp only[Act.put,List.getElem_toArray,List.getElem_cons_zero,List.getElem_cons_succ,List.setIfInBounds_toArray,List.set_cons_zero,List.set_cons_succ]
     refine wpAnyH_ready (rs:=[3,6]) (by kernel_rfl) (by simp) ?_
     refine (AllReadyH.cons rfl (fun K_ hK=>?_) (AllReadyH.cons rfl (fun K_ hK=>?_) AllReadyH.nil))
     ·go_simp
      go_at_call 31
      refine (CN.out _).mono ?_
      rintro e u3 ⟨rfl,h1⟩
      have b3:=Below.go hb0_ h1
      clear h1
      refine hK.out _ _ b3 (fun _=>?_)
      clear hK K_
      try simp only[Act.put,List.getElem_toArray,List.getElem_cons_zero,List.getElem_cons_succ,List.setIfInBounds_toArray,List.set_cons_zero,List.set_cons_succ]
      refine wpAnyH_ready (rs:=[6]) (by kernel_rfl) (by simp) ?_
      refine (AllReadyH.cons rfl (fun K_ hK=>?_) AllReadyH.nil)
      go_simp
      obtain⟨u3_6,LB7,eW,eX,HLB,h1_,_,_⟩:=al1 u3 _ #[.slice p1 4 c1,.slice tq 16 tc] 47 [.slice p1 4 c1,.slice tq 16 tc] rfl rfl
      rw[eW]
      first | rw[eX] | skip
      clear eW eX
      have h1:=h1_.out
      have b3_6:=Below.go b3 h1
      clear h1
      refine hK.out _ _ b3_6 (fun _=>?_)
      clear hK K_
      try simp only[Act.put,List.getElem_toArray,List.getElem_cons_zero,List.getElem_cons_succ,List.setIfInBounds_toArray,List.set_cons_zero,List.set_cons_succ]
      refine wpAnyH_ready (rs:=[7]) (by kernel_rfl) (by simp) ?_
      refine (AllReadyH.cons rfl (fun K_ hK=>?_) AllReadyH.nil)
      go_simp
      go_at_call 27
      refine (Concat_any (some ⟨LB7,0,none⟩) 2 2 (addF (tagB kf b (encM (M.of L))) x (chL L x)) (T2 4 16) rfl (fun k _=>Nat.le_trans (T2_le _ _ k) (by decide)) (Nat.le_refl _) (by decide) _ (parts2 HLB.out (BY1.out.later b3_6) (TB5.out.later b3_6) cap1.out TC.out)).mono ?_
      rintro e u3_6_7 ⟨v7,rfl,hrow,h1⟩
      have b3_6_7:=Below.go b3_6 h1
      replace HLB:=Lib.hid (HLB.out.later h1)
      obtain⟨p7,c7,rfl,_⟩:=row_form hrow
      have R7:=Lib.hid (byt_row hrow).2;have cap7:=Lib.hid (row_cap_ hrow)
      clear hrow
      clear h1
      refine hK.out _ _ b3_6_7 (fun _=>?_)
      clear hK K_
      try simp only[Act.put,List.getElem_toArray,List.getElem_cons_zero,List.getElem_cons_succ,List.setIfInBounds_toArray,List.set_cons_zero,List.set_cons_succ]
      refine wpAnyH_ready (rs:=[9]) (by kernel_rfl) (by simp) ?_
      refine (AllReadyH.cons rfl (fun K_ hK=>?_) AllReadyH.nil)
      go_simp
      go_at_call 28
      refine (SP.out p7 c7 _ cap7.out.1 cap7.out.2 (HG5.out.later b3_6_7) R7.out (CB.out.later b3_6_7)).mono ?_
      rintro e u3_6_7_9 ⟨v9,rfl,hrow,h1⟩
      have b3_6_7_9:=Below.go b3_6_7 h1
      replace HLB:=Lib.hid (HLB.out.later h1)
      replace R7:=Lib.hid (R7.out.later h1)
      obtain⟨q9,d9,rfl,_⟩:=row_form hrow
      have R9:=Lib.hid (byt_row hrow).2;have cap9:=Lib.hid (row_cap_ hrow)
      clear hrow
      clear h1
      refine hK.out _ _ b3_6_7_9 (fun _=>?_)
      clear hK K_
      try simp only[Act.put,List.getElem_toArray,List.getElem_cons_zero,List.getElem_cons_succ,List.setIfInBounds_toArray,List.set_cons_zero,List.set_cons_succ]
      refine wpAnyH_take (i:=10) (v:=?_) rfl (by kernel_rfl) (by kernel_rfl) (by kernel_rfl) (fun _ _ _ h=>h) (Or.inl ⟨by rfl,?_⟩) (by assumption) ?_
      rotate_left
      ·intro w' hS;go_simp;try (with_reducible rfl)
      try simp only[Act.put,List.getElem_toArray,List.getElem_cons_zero,List.getElem_cons_succ,List.setIfInBounds_toArray,List.set_cons_zero,List.set_cons_succ]
      refine wpAnyH_take (i:=11) (v:=?_) rfl (by kernel_rfl) (by kernel_rfl) (by kernel_rfl) (fun _ _ _ h=>h) (Or.inl ⟨by rfl,?_⟩) (by assumption) ?_
      rotate_left
      ·intro w' hS;go_simp;try (with_reducible rfl)
      try simp only[Act.put,List.getElem_toArray,List.getElem_cons_zero,List.getElem_cons_succ,List.setIfInBounds_toArray,List.set_cons_zero,List.set_cons_succ]
      refine wpAnyH_take (i:=12) (v:=?_) rfl (by kernel_rfl) (by kernel_rfl) (by kernel_rfl) (fun _ _ _ h=>h) (Or.inl ⟨by rfl,?_⟩) (by assumption) ?_
      rotate_left
      ·intro w' hS;go_simp;try (with_reducible rfl)
      try simp only[Act.put,List.getElem_toArray,List.getElem_cons_zero,List.getElem_cons_succ,List.setIfInBounds_toArray,List.set_cons_zero,List.set_cons_succ]
      refine wpAnyH_take (i:=13) (v:=?_) rfl (by kernel_rfl) (by kernel_rfl) (by kernel_rfl) (fun _ _ _ h=>h) (Or.inl ⟨by rfl,?_⟩) (by assumption) ?_
      rotate_left
      ·intro w' hS;go_simp;try (with_reducible rfl)
      try simp only[Act.put,List.getElem_toArray,List.getElem_cons_zero,List.getElem_cons_succ,List.setIfInBounds_toArray,List.set_cons_zero,List.set_cons_succ]
      refine wpAnyH_take (i:=14) (v:=?_) rfl (by kernel_rfl) (by kernel_rfl) (by kernel_rfl) (fun _ _ _ h=>h) (Or.inl ⟨by rfl,?_⟩) (by assumption) ?_
      rotate_left
      ·intro w' hS;go_simp;try (with_reducible rfl)
      try simp only[Act.put,List.getElem_toArray,List.getElem_cons_zero,List.getElem_cons_succ,List.setIfInBounds_toArray,List.set_cons_zero,List.set_cons_succ]
      refine wpAnyH_done (by kernel_rfl) ?_ _
      replace J2:=Lib.hid (J2.out.later b3_6_7_9)
      replace KO:=Lib.hid (KO.out.trans (ko_below b3_6_7_9))
      replace BY1:=Lib.hid (BY1.out.later b3_6_7_9)
      clear b3_6_7_9 HK5 HS5 HT5 HG5 TB5 HLB R7 CN SP hb0_ CB cap7
      obtain⟨q0,c0,h1,h2,h3⟩:=J2.out.hp
      have P1:=Lib.hid h1;have P2:=Lib.hid h2;have P3:=Lib.hid h3
      have p0:=h1.at 0 _ rfl;have pl:=h1.lt
      clear h1 h2 h3
      gi_wp2
      obtain⟨w12,LC,eW,eX,HLC,B12,_,_⟩:=al1 u3_6_7_9 _ #[.slice q0 (bunA L x) c0,.slice p1 4 c1,.slice q9 (chL L x+16) d9] 47 [.slice q0 (bunA L x) c0,.slice p1 4 c1,.slice q9 (chL L x+16) d9] rfl rfl
      rw[eW,eX]
      replace J2:=Lib.hid (J2.out.later B12.out);replace P1:=Lib.hid (P1.out.later B12.out)
      replace KO:=Lib.hid (KO.out.trans (ko_below B12.out))
      have hA1:=bunA_lt HK.out;have hA2:=bunA_succ HK.out
      have PA:=Lib.hid (parts3 (g:=bunF kf b (encM (M.of L)) (encA A) L) HLC.out (byt_eq (P2.out.later B12.out) fun j _=>by rw[Nat.zero_add]) (byt_eq (BY1.out.later B12.out) fun j hj=>by rw[hA1,bunF_at _ _ _ _ _ _ _ (by omega)];unfold chuF;rw[if_pos hj]) (byt_eq (R9.out.later B12.out) fun j hj=>by rw[hA1,Nat.add_assoc,bunF_at _ _ _ _ _ _ _ (by have:=hC.out;omega)];unfold chuF;rw[if_neg (by omega),show 4+j - 4=j by omega]) P3.out cap1.out cap9.out)
      clear p0 pl eW eX P2 P3 BY1 R9 HLC B12 cap1 cap9
      refine⟨trivial,?_⟩
      gi_at_call 27
      refine (CallsIn.inRound l (callsIn_wide.2 (Concat_any (some ⟨LC,0,none⟩) 3 3 (bunF kf b (encM (M.of L)) (encA A) L) _ rfl (fun k _=>Nat.le_trans (T3_le (bunA L x) 4 (chL L x+16) k) (by have:=bunA_le (k:=x) hl.2.1;have:=hC.out;omega)) (Nat.le_refl _) (by decide) _ PA.out))).mono ?_
      rintro e w13 ⟨v,rfl,hrow,hb⟩
      replace hrow:w13.ownsRow w12.heap.size 5 1 v (bunA L (x+1)) (nums .u8 (bunF kf b (encM (M.of L)) (encA A) L) (bunA L (x+1))):=by
       have e:bunA L (x+1)=bunA L x+4+(chL L x+16):=by rw[hA2,hA1];omega
       rw[e];exact hrow
      obtain⟨q1,e1,rfl,_⟩:=row_form hrow
      have R1:=Lib.hid (byt_row hrow).2;have C1:=Lib.hid (row_cap_ hrow)
      replace J2:=Lib.hid (J2.out.later hb);replace P1:=Lib.hid (P1.out.later hb)
      replace KO:=Lib.hid (KO.out.trans (ko_below hb))
      have p0:=P1.out.at 0 _ rfl;have pl:=P1.out.lt;have pf:=P1.out.ok 0 (by simp)
      clear hrow hb PA hA1 hA2
      gi_wp2
      exact⟨KO.out.trans (KeepsOthers.setCell _ _ _),J2.out.put NE.out.1 NE.out.2 R1.out C1.out⟩
     ·go_simp
      obtain⟨u6,LB7,eW,eX,HLB,h1_,_,_⟩:=al1 z7 _ #[.slice p1 4 c1,.slice tq 16 tc] 47 [.slice p1 4 c1,.slice tq 16 tc] rfl rfl
      rw[eW]
      first | rw[eX] | skip
      clear eW eX
      have h1:=h1_.out
      have b6:=Below.go hb0_ h1
      clear h1
      refine hK.out _ _ b6 (fun _=>?_)
      clear hK K_
      try simp only[Act.put,List.getElem_toArray,List.getElem_cons_zero,List.getElem_cons_succ,List.setIfInBounds_toArray,List.set_cons_zero,List.set_cons_succ]
      refine wpAnyH_ready (rs:=[3]) (by kernel_rfl) (by simp) ?_
      refine (AllReadyH.cons rfl (fun K_ hK=>?_) AllReadyH.nil)
      go_simp
      go_at_call 31
      refine (CN.out _).mono ?_
      rintro e u6_3 ⟨rfl,h1⟩
      have b6_3:=Below.go b6 h1
      replace HLB:=Lib.hid (HLB.out.later h1)
      clear h1
      refine hK.out _ _ b6_3 (fun _=>?_)
      clear hK K_
      try simp only[Act.put,List.getElem_toArray,List.getElem_cons_zero,List.getElem_cons_succ,List.setIfInBounds_toArray,List.set_cons_zero,List.set_cons_succ]
      refine wpAnyH_ready (rs:=[7]) (by kernel_rfl) (by simp) ?_
      refine (AllReadyH.cons rfl (fun K_ hK=>?_) AllReadyH.nil)
      go_simp
      go_at_call 27
      refine (Concat_any (some ⟨LB7,0,none⟩) 2 2 (addF (tagB kf b (encM (M.of L))) x (chL L x)) (T2 4 16) rfl (fun k _=>Nat.le_trans (T2_le _ _ k) (by decide)) (Nat.le_refl _) (by decide) _ (parts2 HLB.out (BY1.out.later b6_3) (TB5.out.later b6_3) cap1.out TC.out)).mono ?_
      rintro e u6_3_7 ⟨v7,rfl,hrow,h1⟩
      have b6_3_7:=Below.go b6_3 h1
      replace HLB:=Lib.hid (HLB.out.later h1)
      obtain⟨p7,c7,rfl,_⟩:=row_form hrow
      have R7:=Lib.hid (byt_row hrow).2;have cap7:=Lib.hid (row_cap_ hrow)
      clear hrow
      clear h1
      refine hK.out _ _ b6_3_7 (fun _=>?_)
      clear hK K_
      try simp only[Act.put,List.getElem_toArray,List.getElem_cons_zero,List.getElem_cons_succ,List.setIfInBounds_toArray,List.set_cons_zero,List.set_cons_succ]
      refine wpAnyH_ready (rs:=[9]) (by kernel_rfl) (by simp) ?_
      refine (AllReadyH.cons rfl (fun K_ hK=>?_) AllReadyH.nil)
      go_simp
      go_at_call 28
      refine (SP.out p7 c7 _ cap7.out.1 cap7.out.2 (HG5.out.later b6_3_7) R7.out (CB.out.later b6_3_7)).mono ?_
      rintro e u6_3_7_9 ⟨v9,rfl,hrow,h1⟩
      have b6_3_7_9:=Below.go b6_3_7 h1
      replace HLB:=Lib.hid (HLB.out.later h1)
      replace R7:=Lib.hid (R7.out.later h1)
      obtain⟨q9,d9,rfl,_⟩:=row_form hrow
      have R9:=Lib.hid (byt_row hrow).2;have cap9:=Lib.hid (row_cap_ hrow)
      clear hrow
      clear h1
      refine hK.out _ _ b6_3_7_9 (fun _=>?_)
      clear hK K_
      try simp only[Act.put,List.getElem_toArray,List.getElem_cons_zero,List.getElem_cons_succ,List.setIfInBounds_toArray,List.set_cons_zero,List.set_cons_succ]
      refine wpAnyH_take (i:=10) (v:=?_) rfl (by kernel_rfl) (by kernel_rfl) (by kernel_rfl) (fun _ _ _ h=>h) (Or.inl ⟨by rfl,?_⟩) (by assumption) ?_
      rotate_left
      ·intro w' hS;go_simp;try (with_reducible rfl)
      try simp only[Act.put,List.getElem_toArray,List.getElem_cons_zero,List.getElem_cons_succ,List.setIfInBounds_toArray,List.set_cons_zero,List.set_cons_succ]
      refine wpAnyH_take (i:=11) (v:=?_) rfl (by kernel_rfl) (by kernel_rfl) (by kernel_rfl) (fun _ _ _ h=>h) (Or.inl ⟨by rfl,?_⟩) (by assumption) ?_
      rotate_left
      ·intro w' hS;go_simp;try (with_reducible rfl)
      try simp only[Act.put,List.getElem_toArray,List.getElem_cons_zero,List.getElem_cons_succ,List.setIfInBounds_toArray,List.set_cons_zero,List.set_cons_succ]
      refine wpAnyH_take (i:=12) (v:=?_) rfl (by kernel_rfl) (by kernel_rfl) (by kernel_rfl) (fun _ _ _ h=>h) (Or.inl ⟨by rfl,?_⟩) (by assumption) ?_
      rotate_left
      ·intro w' hS;go_simp;try (with_reducible rfl)
      try simp only[Act.put,List.getElem_toArray,List.getElem_cons_zero,List.getElem_cons_succ,List.setIfInBounds_toArray,List.set_cons_zero,List.set_cons_succ]
      refine wpAnyH_take (i:=13) (v:=?_) rfl (by kernel_rfl) (by kernel_rfl) (by kernel_rfl) (fun _ _ _ h=>h) (Or.inl ⟨by rfl,?_⟩) (by assumption) ?_
      rotate_left
      ·intro w' hS;go_simp;try (with_reducible rfl)
      try simp only[Act.put,List.getElem_toArray,List.getElem_cons_zero,List.getElem_cons_succ,List.setIfInBounds_toArray,List.set_cons_zero,List.set_cons_succ]
      refine wpAnyH_take (i:=14) (v:=?_) rfl (by kernel_rfl) (by kernel_rfl) (by kernel_rfl) (fun _ _ _ h=>h) (Or.inl ⟨by rfl,?_⟩) (by assumption) ?_
      rotate_left
      ·intro w' hS;go_simp;try (with_reducible rfl)
      try simp only[Act.put,List.getElem_toArray,List.getElem_cons_zero,List.getElem_cons_succ,List.setIfInBounds_toArray,List.set_cons_zero,List.set_cons_succ]
      refine wpAnyH_done (by kernel_rfl) ?_ _
      replace J2:=Lib.hid (J2.out.later b6_3_7_9)
      replace KO:=Lib.hid (KO.out.trans (ko_below b6_3_7_9))
      replace BY1:=Lib.hid (BY1.out.later b6_3_7_9)
      clear b6_3_7_9 HK5 HS5 HT5 HG5 TB5 HLB R7 CN SP hb0_ CB cap7
      obtain⟨q0,c0,h1,h2,h3⟩:=J2.out.hp
      have P1:=Lib.hid h1;have P2:=Lib.hid h2;have P3:=Lib.hid h3
      have p0:=h1.at 0 _ rfl;have pl:=h1.lt
      clear h1 h2 h3
      gi_wp2
      obtain⟨w12,LC,eW,eX,HLC,B12,_,_⟩:=al1 u6_3_7_9 _ #[.slice q0 (bunA L x) c0,.slice p1 4 c1,.slice q9 (chL L x+16) d9] 47 [.slice q0 (bunA L x) c0,.slice p1 4 c1,.slice q9 (chL L x+16) d9] rfl rfl
      rw[eW,eX]
      replace J2:=Lib.hid (J2.out.later B12.out);replace P1:=Lib.hid (P1.out.later B12.out)
      replace KO:=Lib.hid (KO.out.trans (ko_below B12.out))
      have hA1:=bunA_lt HK.out;have hA2:=bunA_succ HK.out
      have PA:=Lib.hid (parts3 (g:=bunF kf b (encM (M.of L)) (encA A) L) HLC.out (byt_eq (P2.out.later B12.out) fun j _=>by rw[Nat.zero_add]) (byt_eq (BY1.out.later B12.out) fun j hj=>by rw[hA1,bunF_at _ _ _ _ _ _ _ (by omega)];unfold chuF;rw[if_pos hj]) (byt_eq (R9.out.later B12.out) fun j hj=>by rw[hA1,Nat.add_assoc,bunF_at _ _ _ _ _ _ _ (by have:=hC.out;omega)];unfold chuF;rw[if_neg (by omega),show 4+j - 4=j by omega]) P3.out cap1.out cap9.out)
      clear p0 pl eW eX P2 P3 BY1 R9 HLC B12 cap1 cap9
      refine⟨trivial,?_⟩
      gi_at_call 27
      refine (CallsIn.inRound l (callsIn_wide.2 (Concat_any (some ⟨LC,0,none⟩) 3 3 (bunF kf b (encM (M.of L)) (encA A) L) _ rfl (fun k _=>Nat.le_trans (T3_le (bunA L x) 4 (chL L x+16) k) (by have:=bunA_le (k:=x) hl.2.1;have:=hC.out;omega)) (Nat.le_refl _) (by decide) _ PA.out))).mono ?_
      rintro e w13 ⟨v,rfl,hrow,hb⟩
      replace hrow:w13.ownsRow w12.heap.size 5 1 v (bunA L (x+1)) (nums .u8 (bunF kf b (encM (M.of L)) (encA A) L) (bunA L (x+1))):=by
       have e:bunA L (x+1)=bunA L x+4+(chL L x+16):=by rw[hA2,hA1];omega
       rw[e];exact hrow
      obtain⟨q1,e1,rfl,_⟩:=row_form hrow
      have R1:=Lib.hid (byt_row hrow).2;have C1:=Lib.hid (row_cap_ hrow)
      replace J2:=Lib.hid (J2.out.later hb);replace P1:=Lib.hid (P1.out.later hb)
      replace KO:=Lib.hid (KO.out.trans (ko_below hb))
      have p0:=P1.out.at 0 _ rfl;have pl:=P1.out.lt;have pf:=P1.out.ok 0 (by simp)
      clear hrow hb PA hA1 hA2
      gi_wp2
      exact⟨KO.out.trans (KeepsOthers.setCell _ _ _),J2.out.put NE.out.1 NE.out.2 R1.out C1.out⟩
    case hdone =>
     clear JJ HC
     rintro DD W hD hd hK
     have J2:=Lib.hid hd;have DW:=Lib.hid hD;have KD:=Lib.hid hK
     clear hd hD hK
     obtain⟨q0,c0,h1,h2,h3⟩:=J2.out.hp
     have P1:=Lib.hid h1;have P2:=Lib.hid h2;have P3:=Lib.hid h3
     have p0:=h1.at 0 _ rfl;have pl:=h1.lt
     clear h1 h2 h3
     go_wp2_with (fail)
     refine⟨by simp,.inl ⟨_,_,rfl,run_takeDeferred KD.out,?_⟩⟩
     have od:Odd DD W:=⟨_,KD.out,rfl⟩
     have hz:=putObj_below (o := .deferred none) J2.out.hz (show w.heap.size≤DD from Nat.le_trans HWS.out DW.out)
     refine⟨.tuple #[.slice q0 (bunA L (chN L)) c0,.int .i64 0],by simp[results,Tryz.results10,go_sem],?_⟩
     have e:=EL.out
     subst e
     exact⟨_,rfl,⟨q0,c0,rfl,P3.out.1,P3.out.2,byt_odd P2.out od⟩,by rw[← eKw];exact hz⟩
    case hstop=>exact fun _ _ _ h _=>h.elim
   ·have SE:selE M A=em:=by unfold selE;rw[if_neg (by rw[← EA.out];decide),if_neg (by rw[h1];simp),← EL.out,EM.out]
    have hd:(em != 0)=true:=by simpa using h2
    go_wp2_with (fail)
    exact⟨.tuple #[.slice none 0 0,.int .i64 em],by simp[results,Tryz.results10,go_sem],_,rfl,⟨none,0,rfl,Nat.le_refl _,by decide,.inl rfl⟩,by rw[← eKw];exact B2.out⟩
  ·have SE:selE M A=12:=by unfold selE;rw[if_neg (by rw[← EA.out];decide),if_pos h1]
   have d1:(M.k != A.k)=true:=by simpa using h1
   go_wp2_with (fail)
   exact⟨.tuple #[.slice none 0 0,.int .i64 12],by simp[results,Tryz.results10,go_sem],_,rfl,⟨none,0,rfl,Nat.le_refl _,by decide,.inl rfl⟩,by rw[← eKw];exact B.out⟩
 ·have SE:selE M A=ea:=by unfold selE;rw[if_pos (by rw[← EA.out];exact h0),EA.out]
  have hd:(ea != 0)=true:=by simpa using h0
  go_wp2_with (fail)
  exact⟨.tuple #[.slice none 0 0,.int .i64 ea],by simp[results,Tryz.results10,go_sem],_,rfl,⟨none,0,rfl,Nat.le_refl _,by decide,.inl rfl⟩,by rw[← eKw];exact B.out⟩
end Go.Proofs.YtbilamnnneddmaaGreatDoor
namespace Go.Proofs.YtbilamnnneddmaaGreatDoor
set_option linter.unusedVariables false
set_option maxRecDepth 2000
set_option linter.unusedSimpArgs false
open Go.RowKit
theorem sel_zero {M:Mn} {A:Ast} (h:selE M A=0):chkA A=0∧M.k=A.k∧chkN (M.of (lenA A))=0:=by
 unfold selE at h
 by_cases h1:chkA A=0
 ·rw[if_neg (by rw[h1];decide)] at h
  by_cases h2:M.k=A.k
  ·rw[if_neg (by rw[h2];simp)] at h
   exact⟨h1,h2,h⟩
  ·rw[if_pos h2] at h;exact absurd h (by decide)
 ·rw[if_pos h1] at h;exact absurd h h1
theorem back_man {kf b:Nat→Int} {M:Mn} {A:Ast} (hM:okM M) (h:selE M A=0):(decM (manP (selF kf b M A))).k=A.k∧sizF (selF kf b M A)=lenA A∧cM (decM (manP (selF kf b M A)))=cM (M.of (lenA A))∧gdecE (manP (selF kf b M A)) 35=0:=by
 obtain⟨h1,h2,h3⟩:=sel_zero h
 have hl:=lenA_le h1
 have hO:okM (M.of (lenA A)):=okM_of hM (by omega)
 have hF:∀ j,j<35→manP (selF kf b M A) j=encM (M.of (lenA A)) j:=fun j hj=>bun_man j hj
 obtain⟨a,b1,c,d,e,f,g,i⟩:=genc_back (M.of (lenA A)).i (M.of (lenA A)).k (M.of (lenA A)).l (M.of (lenA A)).g (M.of (lenA A)).f (M.of (lenA A)).t (M.of (lenA A)).s (M.of (lenA A)).c hO h3 _ rfl
 have vc:=fun t W=>val_congr (t:=t) (W:=W) hF
 have e0:(decM (manP (selF kf b M A))).i=M.i:=(vc 0 8).trans a
 have e1:(decM (manP (selF kf b M A))).k=M.k:=(vc 8 1).trans b1
 have e2:(decM (manP (selF kf b M A))).l=M.l:=(vc 9 4).trans c
 have e3:∀ j,j<8→(decM (manP (selF kf b M A))).g j=M.g j:=fun j hj=>(vc (13+j) 1).trans (d j hj)
 have e4:(decM (manP (selF kf b M A))).f=M.f:=(vc 21 4).trans e
 have e5:(decM (manP (selF kf b M A))).t=M.t:=(vc 25 4).trans f
 have e6:(decM (manP (selF kf b M A))).s=(lenA A:Int):=(vc 29 4).trans g
 have e7:(decM (manP (selF kf b M A))).c=chunkF (lenA A):=(vc 33 2).trans i
 refine⟨e1.trans h2,by unfold sizF;rw[e6];exact Int.toNat_natCast _,?_,?_⟩
 ·unfold cM
  rw[e0,e1,e2,e3 0 (by decide),e3 1 (by decide),e3 2 (by decide),e3 3 (by decide),e3 4 (by decide),e3 5 (by decide),e3 6 (by decide),e3 7 (by decide),e4,e5,e6,e7]
  rfl
 ·show checkF _ _ _ _ _ _=0
  rw[show gvalN (manP (selF kf b M A)) 35 8 1=M.k from e1,show gvalN (manP (selF kf b M A)) 35 21 4=M.f from e4,show gvalN (manP (selF kf b M A)) 35 25 4=M.t from e5,show gvalN (manP (selF kf b M A)) 35 29 4=_ from e6,show gvalN (manP (selF kf b M A)) 35 33 2=_ from e7,checkF_congr (g:=mskN (manP (selF kf b M A)) 35) (g':=M.g) (fun j hj=>e3 j hj)]
  exact h3
theorem back_peek {kf b:Nat→Int} {M:Mn} {A:Ast} {N:Nat} (hM:okM M) (h:selE M A=0) (hN:63≤N):pkE kf (selF kf b M A) N=0:=by
 unfold pkE
 rw[if_neg (by omega)]
 exact bun_peek.trans (back_man hM h).2.2.2
theorem back_pla {kf b:Nat→Int} {M:Mn} {A:Ast} (hM:okM M) (h:selE M A=0):∀ j,j<sizF (selF kf b M A)→encA A j=plaF kf (selF kf b M A) j:=fun j hj=>by
 rw[(back_man hM h).2.1] at hj
 exact (bun_pla (encA_in (sel_zero h).1) j hj).symm
theorem back_open {kf b:Nat→Int} {M:Mn} {A:Ast} (hM:okM M) (h:selE M A=0):opnE kf (selF kf b M A) (bunL (lenA A)) (encA A)=0:=by
 have h63:63≤bunL (lenA A):=by unfold bunL bunA;omega
 obtain⟨e1,e2,_,_⟩:=back_man (kf:=kf) (b:=b) hM h
 unfold opnE
 rw[if_neg (by rw[back_peek hM h h63];decide),e2,e1,show opcE kf (selF kf b M A) (bunL (lenA A)) (lenA A)=0 from (bun_opc (Nat.le_refl _)).trans (if_neg (Nat.lt_irrefl _)),if_neg (by decide)]
 exact enc_decE (sel_zero h).1
theorem back_less {kf b P:Nat→Int} {M:Mn} {A:Ast} {N:Nat} (hM:okM M) (h:selE M A=0) (hN:N<bunL (lenA A)):opnE kf (selF kf b M A) N P≠0:=by
 unfold opnE
 by_cases h63:N<63
 ·have:pkE kf (selF kf b M A) N=4:=if_pos h63
  rw[if_pos (by rw[this];decide),this]
  decide
 ·rw[if_neg (by rw[back_peek hM h (by omega)];decide),(back_man (kf:=kf) (b:=b) hM h).2.1]
  have:opcE kf (selF kf b M A) N (lenA A)≠0:=bun_cut (kf:=kf) (b:=b) (mF:=encM (M.of (lenA A))) (P:=encA A) hN (by omega)
  rw[if_pos this]
  exact this
end Go.Proofs.YtbilamnnneddmaaGreatDoor
namespace Go.Proofs.YtbilamnnneddmaaGreatDoor
set_option linter.unusedVariables false
set_option maxRecDepth 2000
set_option linter.unusedVariables false
set_option linter.unusedSimpArgs false
open Go.RowKit
theorem wpList_load_g {P:Program} {ops:Array Oper} {rest:List Oper} {op:Oper} {a:Act} {w:World} {Q:Exit→Act→World→Prop} (hw:Region.wanted op (yielded ops a.tmps)=true) (ty:TypeId) (x:Operand) (ho:op.op = .load ty x)
  (b o:Nat) (hx:a.eval x = .pointer (some ⟨b,o,none⟩)) (cs:List Value) (d:TypeDesc) (hc:w.rangeAt b o cs)
  (hu:P.underlying ty=some d) (hd:d.isRow=true) (hi:(P.info? ty).map (·.size)=some cs.length)
  (h:wpList P ops Q rest (a.put op.dst (.agg cs.toArray)) w):wpList P ops Q (op :: rest) a w :=
 wpList_step fun K hK=>by
  rw[if_pos hw]
  exact wp_load_mid ty x ho b o hx cs d hc hu hd hi (hK _ _ h)
theorem in_bunF {kf b mF P:Nat→Int} {L:Nat} (hb:∀ j,j<8→inB (b j)) (hm:∀ j,j<35→inB (mF j)) (hP:∀ j,j<L→inB (P j)) (j:Nat):inB (bunF kf b mF P L j):=by
 unfold bunF topF chuF
 split
 ·split
  ·exact in_headF hb hm _ (by assumption)
  ·exact in_tagB _ _ _ _
 ·split
  ·exact in_froF _ _ _
  ·exact in_sealF (fun i hi=>hP _ (by unfold chL at hi;omega)) _
theorem in_selF {kf b:Nat→Int} {M:Mn} {A:Ast} (hb:∀ j,j<8→inB (b j)) (hM:okM M) (h:chkA A=0) (j:Nat):inB (selF kf b M A j) :=
 in_bunF hb (fun j _=>okM_enc (okM_of hM (by have:=lenA_le h;omega)) j) (encA_in h) j
theorem bunL_le {L:Nat} (h:L≤900):63≤bunL L∧bunL L≤1100:=by unfold bunL bunA chN;omega
theorem Opens_any (kf b:Nat→Int) (M:Mn) (A:Ast) (q:Option Addr) (c:Nat) (hk:∀ i,i<32→inB (kf i)) (hb:∀ i,i<8→inB (b i)) (hM:okM M) (h:selE M A=0) (hNc:bunL (lenA A)≤c) (hc:c≤9223372036854775807) (w:World) (hG:Has 1 0 GL w) (hg:Has 0 0 CapL w) (hq:Byt w q (bunL (lenA A)) (selF kf b M A)) :
  Calls Tryz.prog 18 #[(.agg (nums .u8 kf 32).toArray),.slice q (bunL (lenA A)) c] w fun e w'=>∃ Y,e = .returned (.tuple #[.agg (cM (M.of (lenA A))).toArray,.agg (cA Y).toArray,.int .i64 0])∧AstAt Y w'∧FewA Y∧EqA Y (decA A.k (encA A) (lenA A))∧Below w.heap.size w w':=by
 have hl:=lenA_le (sel_zero h).1
 have hL:=bunL_le hl.2.1
 obtain⟨e1,e2,e3,_⟩:=back_man (kf:=kf) (b:=b) hM h
 have e0:=back_open (kf:=kf) (b:=b) hM h
 refine (Open_any kf (selF kf b M A) (encA A) (back_pla hM h) q _ c hk (fun j _=>in_selF hb hM (sel_zero h).1 j) (by omega) hNc hc w hG hg hq).mono ?_
 rintro e w' ⟨Y,rfl,h1,h2,h3,_,h5⟩
 have h3:=h3 e0
 rw[e1,e2] at h3
 exact⟨Y,by rw[e0,show opnM kf (selF kf b M A) (bunL (lenA A)) (encA A)=decM (manP (selF kf b M A)) from if_pos e0,e3],h1,h2,h3,h5⟩
end Go.Proofs.YtbilamnnneddmaaGreatDoor
namespace Go.Proofs.YtbilamnnneddmaaGreatDoor
set_option linter.unusedVariables false
set_option maxRecDepth 2000
set_option linter.unusedSimpArgs false
open Go.RowKit
def kW (j:Nat):Int:=if j=0 then 1 else 0
def bW (j:Nat):Int:=if j=0 then 2 else 0
def mW:Mn:=⟨0,3,0,fun _=>0,0,0,0,0⟩
def aW:Ast:=kinA 3
theorem kW_in:∀ i,i<32→inB (kW i):=fun i _=>by unfold kW inB;split<;>omega
theorem bW_in:∀ i,i<8→inB (bW i):=fun i _=>by unfold bW inB;split<;>omega
theorem mW_ok:okM mW:=⟨by decide,by decide,by decide,fun j _=>by show inB 0;unfold inB;omega,by decide,by decide,by decide,by decide⟩
theorem aW_few:FewA aW:=⟨by decide,by decide,by decide,by decide⟩
theorem aW_sel:selE mW aW=0:=by decide +kernel
theorem aW_9:lenA aW=9:=rfl
theorem aW_92:bunL 9=92:=by decide +kernel
theorem mW_9:(.agg (cM (mW.of 9)).toArray:Value) = .agg #[.int .u64 0,.int .i64 3,.int .u32 0,.int .u8 0,.int .u8 0,.int .u8 0,.int .u8 0,.int .u8 0,.int .u8 0,.int .u8 0,.int .u8 0,.int .u32 0,.int .u32 0,.int .i64 9,.int .i64 1]:=by
 have:chunkF 9=1:=by decide +kernel
 show Value.agg #[.int .u64 0,.int .i64 3,.int .u32 0,.int .u8 0,.int .u8 0,.int .u8 0,.int .u8 0,.int .u8 0,.int .u8 0,.int .u8 0,.int .u8 0,.int .u32 0,.int .u32 0,.int .i64 9,.int .i64 (chunkF 9)]=_
 rw[this]
theorem eqW (w:World):(binOp .eql 27 (.agg #[.int .u64 0,.int .i64 3,.int .u32 0,.int .u8 0,.int .u8 0,.int .u8 0,.int .u8 0,.int .u8 0,.int .u8 0,.int .u8 0,.int .u8 0,.int .u32 0,.int .u32 0,.int .i64 9,.int .i64 1]) (.agg #[.int .u64 0,.int .i64 3,.int .u32 0,.int .u8 0,.int .u8 0,.int .u8 0,.int .u8 0,.int .u8 0,.int .u8 0,.int .u8 0,.int .u8 0,.int .u32 0,.int .u32 0,.int .i64 9,.int .i64 1])).run Tryz.prog w = .ok (.bool true) w:=eqMs 0 3 0 (fun _=>0) 0 0 9 1 w
attribute [local go_sem ↓ high] eqW
set_option maxHeartbeats 16000000 in
theorem works16_any (w:World) (hG:Has 1 0 GL w) (hg:Has 0 0 CapL w):Calls Tryz.prog 15 #[] w fun e w'=>e = .returned (.bool true)∧Below w.heap.size w w':=by
 have HG:=Lib.hid hG;have Hg:=Lib.hid hg
 have C1:=Lib.hid (fun w hG hg=>Seal_b kW bW mW aW kW_in bW_in mW_ok aW_few w ⟨nilM_at w,nilX_at w⟩ hG hg)
 have C2:=Lib.hid (fun q c h1 h2 w hG hg hq=>Opens_any kW bW mW aW q c kW_in bW_in mW_ok aW_sel h1 h2 w hG hg hq)
 rw[aW_sel,if_pos rfl,aW_9,aW_92] at C1
 rw[aW_9,aW_92] at C2
 clear hG hg
 go_enter Tryz.func15,Tryz.ntmps15
 go_wp2_with (fail)
 go_at_call 10
 refine (C1.out _ HG.out Hg.out).mono ?_
 rintro e w1 ⟨v,rfl,⟨q,c,rfl,hc1,hc2,hy⟩,hb⟩
 have B:=Lib.hid hb;have HY:=Lib.hid hy;have CC:=Lib.hid (And.intro hc1 hc2)
 replace HG:=Lib.hid (HG.out.later hb)
 replace Hg:=Lib.hid (Hg.out.later hb)
 clear hb hy hc1 hc2 C1
 go_wp2_with (fail)
 go_at_call 18
 refine (C2.out q c CC.out.1 CC.out.2 _ HG.out Hg.out HY.out).mono ?_
 rintro e w2 ⟨Y,rfl,-,-,-,hb⟩
 replace B:=Lib.hid (Below.go B.out hb)
 clear hb C2 HG Hg HY CC
 have SZ:=Lib.hid B.out.size
 go_upto_region 3 with (obtain⟨w3,Z,eW,eX,HZ,b3,ZW,s3⟩:=al1 w2 _ #[.int .u64 0,.int .i64 0,.int .u32 0,.int .u8 0,.int .u8 0,.int .u8 0,.int .u8 0,.int .u8 0,.int .u8 0,.int .u8 0,.int .u8 0,.int .u32 0,.int .u32 0,.int .i64 0,.int .i64 0] 27 (cM nilMn) rfl rfl;rw[eW,eX];obtain⟨w4,X,eW4,eX4,HX,b4,XW,s4⟩:=al1 w3 _ #[.int .i64 0,.slice none 0 0,.slice none 0 0,.slice none 0 0,.int .i64 0,.slice none 0 0,.int .i64 0,.int .i64 0,.int .i64 0,.int .i64 0,.int .i64 0,.int .i64 0,.int .i64 0,.int .i64 0,.int .i64 0,.int .i64 0,.int .i64 0,.int .i64 0,.int .i64 0,.int .i64 0,.int .i64 0,.int .i64 0,.int .i64 0,.int .i64 0] 45 (cA (kinA 0)) s3 rfl;rw[eW4,eX4];refine wpList_store_mid rfl 27 _ _ rfl Z 0 (cM (mW.of 9)).toArray rfl rfl (freeM (HZ.out.later b4.out)) (by kernel_rfl) (cM_one _) ?_;refine wpList_store_mid rfl 45 _ _ rfl X 0 (cA Y).toArray rfl rfl (freeA (HX.out.far (c:=Z) (o:=0) (vs:=cM (mW.of 9)) (by omega))) (by kernel_rfl) (cA_one _) ?_)
 have nZX:Z≠X:=by omega
 have HZ2:=Lib.hid ((putM (Y:=mW.of 9) (HZ.out.later b4.out)).far (c:=X) (o:=0) (vs:=cA Y) nZX)
 have b5:=Below.setCells (Below.setCells (Below.go b3.out b4.out) ZW.out (cM (mW.of 9)) 0) (show w2.heap.size≤X by have:=ZW.out;omega) (cA Y) 0
 clear eW eX HZ b3 ZW s3 eW4 eX4 HX b4 XW s4 nZX
 generalize (w4.setCells Z 0 (cM (mW.of 9))).setCells X 0 (cA Y)=w5 at *
 replace B:=Lib.hid (Below.go B.out b5)
 clear b5
 go_wp2_with (first | (refine wpList_load_g (by rfl) 27 _ rfl Z 0 rfl (cM (mW.of 9)) _ HZ2.out.cell Tryz.underlying27 rfl (by kernel_rfl) ?_;rw[mW_9]))
 go_ret
 exact⟨rfl,B.out⟩
end Go.Proofs.YtbilamnnneddmaaGreatDoor
