import Derived.Test.YtbilamnnneddmaaGreatDoorZJax
import Derived.Lib.Hide
import Derived.LoopN
import Derived.LoopTactic
import Derived.Deep.Onto
import Derived.Deep.RegionHeld3
import Derived.Deep.QuietTactic
import Derived.BigQuiet
import Derived.Great.BuildSlice
import Derived.StillTailTactics
import Derived.Lib.SliceRun
import Derived.OrdersHeld
import Derived.Test.YtbilamnnneddmaaGreatDoorZMS2
import Derived.Test.YtbilamnnneddmaaGreatDoorZHUx
import Derived.Test.YtbilamnnneddmaaGreatDoorZTXAx
import Derived.WalkKit
import Derived.ProofKit
import Derived.OpenShut
import Derived.ChangeSlices
import Derived.ChangeSame
namespace Go.Proofs.YtbilamnnneddmaaGreatDoor
set_option linter.unusedVariables false
set_option maxRecDepth 2000
set_option linter.unusedSimpArgs false
open Go.RowKit
def decG (F:Nat→Int) (N:Nat):Nat→Int
 | 0=>valN F N 0 1
 | 1=>valN F N 1 2
 | 2=>valN F N 3 2
 | 3=>valN F N 5 2
 | 4=>valN F N 7 2
 | _=>0
def decLt (F:Nat→Int) (N:Nat):Nat→Int
 | 0=>valN F N 0 1
 | 1=>valN F N 1 4
 | 2=>valN F N 5 4
 | 3=>valN F N 9 4
 | 4=>sgnN F N 13
 | 5=>sgnN F N 15
 | 6=>sgnN F N 17
 | 7=>sgnN F N 19
 | 8=>sgnN F N 21
 | 9=>sgnN F N 23
 | 10=>sgnN F N 25
 | 11=>sgnN F N 27
 | 12=>sgnN F N 29
 | _=>0
theorem AEnd_any {K D N at_:Nat} {er:Int} {F:Nat→Int} {w:World} (h:Rd w K D F N at_ er):Calls Tryz.prog 71 #[.pointer (some ⟨K,0,none⟩)] w fun e w'=>e = .returned (.int .i64 (endE N at_ er))∧Below w.heap.size w w':=(End_any h).mono fun _ _ h=>⟨h.1,by rw[h.2];exact Below.refl _ _⟩
set_option maxHeartbeats 8000000 in
theorem decMat_any (F:Nat→Int) (q:Option Addr) (N c:Nat) (hF:∀ j,j<N→inB (F j)) (hN:N≤100000) (w:World) (hq:Byt w q N F) :
  Calls Tryz.prog 118 #[.slice q N c] w fun e w'=>e = .returned (.tuple #[(.agg #[.int .i64 (decG F N 0),.int .i64 (decG F N 1),.int .i64 (decG F N 2),.int .i64 (decG F N 3),.int .i64 (decG F N 4)]),.int .i64 (endE N 9 (erN N 9))])∧Below w.heap.size w w':=by
 have HQ:=Lib.hid hq
 have NW:=Lib.hid (fun w hq=>New_any q N c F (by omega) w hq)
 have C0_0:=Lib.hid (fun K D w h=>Num_next (K:=K) (D:=D) (N:=N) (t:=0) (F:=F) (w:=w) 1 1 1 rfl rfl (by decide) (by decide) hF h)
 have w0:IntKind.i64.wrap (valN F N 0 1)=valN F N 0 1:=IntWalk.i64_in _ (by
  have a:=in_valN hF 0 1
  have b:=pw_le4 (W:=1) (by decide)
  omega)
 have C1_0:=Lib.hid (fun K D w h hD=>color_any (K:=K) (D:=D) (N:=N) (t:=1) (F:=F) (w:=w) 2 (by decide) (by decide) hF h hD)
 have C2_0:=Lib.hid (fun K D w h=>Num_next (K:=K) (D:=D) (N:=N) (t:=7) (F:=F) (w:=w) 2 9 2 rfl rfl (by decide) (by decide) hF h)
 have w2:IntKind.i64.wrap (valN F N 7 2)=valN F N 7 2:=IntWalk.i64_in _ (by
  have a:=in_valN hF 7 2
  have b:=pw_le4 (W:=2) (by decide)
  omega)
 clear hq hF hN
 have EQ:Hid ((.agg #[.int .i64 (decG F N 0),.int .i64 (decG F N 1),.int .i64 (decG F N 2),.int .i64 (decG F N 3),.int .i64 (decG F N 4)])=(Value.agg ([.int .i64 (valN F N 0 1),.int .i64 (valN F N 1 2),.int .i64 (valN F N (1+2) 2),.int .i64 (valN F N (1+2+2) 2),.int .i64 (valN F N 7 2)]).toArray)):=Lib.hid rfl
 rw[EQ.out]
 generalize valN F N 0 1=x0 at *
 generalize valN F N 1 2=x1 at *
 generalize valN F N (1+2) 2=x2 at *
 generalize valN F N (1+2+2) 2=x3 at *
 generalize valN F N 7 2=x4 at *
 go_enter Tryz.func118,Tryz.ntmps118
 go_upto_region 1 with fail
 obtain⟨W0,hW⟩:∃ W0,W0=(w.alloc (.cells #[.int .i64 0,.int .i64 0,.int .i64 0,.int .i64 0,.int .i64 0] 39)):=⟨_,rfl⟩
 have hB0:Below w.heap.size w W0:=hW ▸ (Below.al (Below.refl _ _))
 have HP:Hid (Own w.heap.size ([.int .i64 0,.int .i64 0,.int .i64 0,.int .i64 0,.int .i64 0]) W0):=Lib.hid (hW ▸ (show Own w.heap.size ([.int .i64 0,.int .i64 0,.int .i64 0,.int .i64 0,.int .i64 0]) (w.alloc (.cells #[.int .i64 0,.int .i64 0,.int .i64 0,.int .i64 0,.int .i64 0] 39)) from Own.newAt (by simp)))
 rw[← hW]
 clear hW
 obtain⟨P,eP⟩:∃ X,X=w.heap.size:=⟨_,rfl⟩
 rw[← eP] at HP ⊢
 have Pw:w.heap.size≤P:=by omega
 clear eP
 have HQ0:=Lib.hid (HQ.out.later hB0)
 clear HQ
 go_wp2_with (fail)
 go_at_call 69
 refine (NW.out _ HQ0.out).mono ?_
 rintro e y0 ⟨K,D,rfl,hK,hD,hDl,hr,hb⟩
 have nPK:P≠K:=by have:=HP.out.lt;omega
 have nDP:D≠P:=by have:=HP.out.lt;omega
 have Kw:w.heap.size≤K:=by have:=hB0.size;omega
 have HP0:=Lib.hid (HP.out.later hb);have HR0:=Lib.hid hr;have HB0:=Lib.hid (Below.go hB0 hb);have DL0:=Lib.hid hDl
 rw[show (0:Int)=erN N 0 from (if_pos (Nat.zero_le _)).symm] at HR0
 clear hK hD hDl hr hb hB0 HP HQ0 NW EQ
 go_wp2_with (fail)
 go_at_call 108
 refine (C0_0.out K D _ HR0.out).mono ?_
 rintro e y1 ⟨rfl,k1,k2⟩
 have HP1:=Lib.hid (HP0.out.but k2 nPK);have HR1:=Lib.hid k1;have HB1:=Lib.hid (HB0.out.trans (k2.below.mono Kw));have DL1:=Lib.hid (Nat.lt_of_lt_of_le DL0.out k2.below.size)
 clear k1 k2 HP0 HR0 HB0 DL0 C0_0
 have oP:=HP1.out
 have P0:=oP.at 0 _ rfl
 have Pf0:=oP.ok 0 (Nat.le_of_ble_eq_true rfl)
 have P1:=oP.at 1 _ rfl
 have Pf1:=oP.ok 1 (Nat.le_of_ble_eq_true rfl)
 have P2:=oP.at 2 _ rfl
 have Pf2:=oP.ok 2 (Nat.le_of_ble_eq_true rfl)
 have P3:=oP.at 3 _ rfl
 have Pf3:=oP.ok 3 (Nat.le_of_ble_eq_true rfl)
 have P4:=oP.at 4 _ rfl
 have Pf4:=oP.ok 4 (Nat.le_of_ble_eq_true rfl)
 have Pl:=oP.lt
 clear oP
 go_upto_region 3 with fail
 clear P0 Pf0 P1 Pf1 P2 Pf2 P3 Pf3 P4 Pf4 Pl
 rw[show (y1.setCell ⟨P,0,none⟩ (.int .i64 x0))=y1.setCells P 0 [.int .i64 x0] from rfl]
 have HPn:Hid (Own P ([.int .i64 x0,.int .i64 0,.int .i64 0,.int .i64 0,.int .i64 0]) (y1.setCells P 0 [.int .i64 x0])):=Lib.hid (show Own P (over _ 0 [.int .i64 x0]) _ from Own.part HP1.out (Nat.le_of_ble_eq_true rfl))
 have HRn:=Lib.hid (Rd.far HR1.out (But.store (K:=P) (o:=0) (vs:=[.int .i64 x0])) (Ne.symm nPK) nDP)
 have HBn:Hid (Below w.heap.size w (y1.setCells P 0 [.int .i64 x0])):=Lib.hid (Below.setCells HB1.out Pw _ _)
 have DLn:Hid (D<(y1.setCells P 0 [.int .i64 x0]).heap.size):=Lib.hid (by rw[size_setCells];exact DL1.out)
 clear HP1 HR1 HB1 DL1
 generalize y1.setCells P 0 [.int .i64 x0]=y2 at *
 have HP2:=HPn;have HR2:=HRn;have HB2:=HBn;have DL2:=DLn
 clear HPn HRn HBn DLn
 go_wp2_with (fail)
 go_at_call 144
 refine (C1_0.out K D _ HR2.out (.inr DL2.out)).mono ?_
 rintro e y3 ⟨rfl,k1,k2⟩
 have HP3:=Lib.hid (HP2.out.but k2 nPK);have HR3:=Lib.hid k1;have HB3:=Lib.hid (HB2.out.trans (k2.below.mono Kw));have DL3:=Lib.hid (Nat.lt_of_lt_of_le DL2.out k2.below.size)
 clear k1 k2 HP2 HR2 HB2 DL2 C1_0
 have oP:=HP3.out
 have P0:=oP.at 0 _ rfl
 have Pf0:=oP.ok 0 (Nat.le_of_ble_eq_true rfl)
 have P1:=oP.at 1 _ rfl
 have Pf1:=oP.ok 1 (Nat.le_of_ble_eq_true rfl)
 have P2:=oP.at 2 _ rfl
 have Pf2:=oP.ok 2 (Nat.le_of_ble_eq_true rfl)
 have P3:=oP.at 3 _ rfl
 have Pf3:=oP.ok 3 (Nat.le_of_ble_eq_true rfl)
 have P4:=oP.at 4 _ rfl
 have Pf4:=oP.ok 4 (Nat.le_of_ble_eq_true rfl)
 have Pl:=oP.lt
 clear oP
 go_upto_region 4 with fail
 clear P0 Pf0 P1 Pf1 P2 Pf2 P3 Pf3 P4 Pf4 Pl
 rw[show (((y3.setCell ⟨P,1,none⟩ (.int .i64 x1)).setCell ⟨P,2,none⟩ (.int .i64 x2)).setCell ⟨P,3,none⟩ (.int .i64 x3))=y3.setCells P 1 [.int .i64 x1,.int .i64 x2,.int .i64 x3] from rfl]
 have HPn:Hid (Own P ([.int .i64 x0,.int .i64 x1,.int .i64 x2,.int .i64 x3,.int .i64 0]) (y3.setCells P 1 [.int .i64 x1,.int .i64 x2,.int .i64 x3])):=Lib.hid (show Own P (over _ 1 [.int .i64 x1,.int .i64 x2,.int .i64 x3]) _ from Own.part HP3.out (Nat.le_of_ble_eq_true rfl))
 have HRn:=Lib.hid (Rd.far HR3.out (But.store (K:=P) (o:=1) (vs:=[.int .i64 x1,.int .i64 x2,.int .i64 x3])) (Ne.symm nPK) nDP)
 have HBn:Hid (Below w.heap.size w (y3.setCells P 1 [.int .i64 x1,.int .i64 x2,.int .i64 x3])):=Lib.hid (Below.setCells HB3.out Pw _ _)
 have DLn:Hid (D<(y3.setCells P 1 [.int .i64 x1,.int .i64 x2,.int .i64 x3]).heap.size):=Lib.hid (by rw[size_setCells];exact DL3.out)
 clear HP3 HR3 HB3 DL3
 generalize y3.setCells P 1 [.int .i64 x1,.int .i64 x2,.int .i64 x3]=y4 at *
 have HP4:=HPn;have HR4:=HRn;have HB4:=HBn;have DL4:=DLn
 clear HPn HRn HBn DLn
 go_wp2_with (fail)
 go_at_call 108
 refine (C2_0.out K D _ HR4.out).mono ?_
 rintro e y5 ⟨rfl,k1,k2⟩
 have HP5:=Lib.hid (HP4.out.but k2 nPK);have HR5:=Lib.hid k1;have HB5:=Lib.hid (HB4.out.trans (k2.below.mono Kw));have DL5:=Lib.hid (Nat.lt_of_lt_of_le DL4.out k2.below.size)
 clear k1 k2 HP4 HR4 HB4 DL4 C2_0
 have oP:=HP5.out
 have P0:=oP.at 0 _ rfl
 have Pf0:=oP.ok 0 (Nat.le_of_ble_eq_true rfl)
 have P1:=oP.at 1 _ rfl
 have Pf1:=oP.ok 1 (Nat.le_of_ble_eq_true rfl)
 have P2:=oP.at 2 _ rfl
 have Pf2:=oP.ok 2 (Nat.le_of_ble_eq_true rfl)
 have P3:=oP.at 3 _ rfl
 have Pf3:=oP.ok 3 (Nat.le_of_ble_eq_true rfl)
 have P4:=oP.at 4 _ rfl
 have Pf4:=oP.ok 4 (Nat.le_of_ble_eq_true rfl)
 have Pl:=oP.lt
 clear oP
 go_upto_region 5 with fail
 clear P0 Pf0 P1 Pf1 P2 Pf2 P3 Pf3 P4 Pf4 Pl
 rw[show (y5.setCell ⟨P,4,none⟩ (.int .i64 x4))=y5.setCells P 4 [.int .i64 x4] from rfl]
 have HPn:Hid (Own P ([.int .i64 x0,.int .i64 x1,.int .i64 x2,.int .i64 x3,.int .i64 x4]) (y5.setCells P 4 [.int .i64 x4])):=Lib.hid (show Own P (over _ 4 [.int .i64 x4]) _ from Own.part HP5.out (Nat.le_of_ble_eq_true rfl))
 have HRn:=Lib.hid (Rd.far HR5.out (But.store (K:=P) (o:=4) (vs:=[.int .i64 x4])) (Ne.symm nPK) nDP)
 have HBn:Hid (Below w.heap.size w (y5.setCells P 4 [.int .i64 x4])):=Lib.hid (Below.setCells HB5.out Pw _ _)
 have DLn:Hid (D<(y5.setCells P 4 [.int .i64 x4]).heap.size):=Lib.hid (by rw[size_setCells];exact DL5.out)
 clear HP5 HR5 HB5 DL5
 generalize y5.setCells P 4 [.int .i64 x4]=y6 at *
 have HP6:=HPn;have HR6:=HRn;have HB6:=HBn;have DL6:=DLn
 clear HPn HRn HBn DLn
 refine wp_region_held_drew (S:=fun w'=>Below y6.heap.size y6 w') (by kernel_rfl) (Below.refl _ _).drew (fun hb0_=>?_)
 refine wpAnyH_take (i:=0) (v := .agg ([.int .i64 x0,.int .i64 x1,.int .i64 x2,.int .i64 x3,.int .i64 x4]).toArray) rfl (by kernel_rfl) (by kernel_rfl) (by kernel_rfl) (fun _ _ _ h=>h) (yieldsIf_load_mid (by rfl) 39 _ rfl P 0 rfl ([.int .i64 x0,.int .i64 x1,.int .i64 x2,.int .i64 x3,.int .i64 x4]) _ (fun w h=>(HP6.out.later h).cell) Tryz.underlying39 rfl (by kernel_rfl)) (by assumption) ?_
 try simp only[Act.put,List.getElem_toArray,List.getElem_cons_zero,List.getElem_cons_succ,List.setIfInBounds_toArray,List.set_cons_zero,List.set_cons_succ]
 refine wpAnyH_take (i:=1) (v:=?_) rfl (by kernel_rfl) (by kernel_rfl) (by kernel_rfl) (fun _ _ _ h=>h) (Or.inl ⟨by rfl,?_⟩) (by assumption) ?_
 rotate_left
 ·intro w' hS;go_simp;try (with_reducible rfl)
 try simp only[Act.put,List.getElem_toArray,List.getElem_cons_zero,List.getElem_cons_succ,List.setIfInBounds_toArray,List.set_cons_zero,List.set_cons_succ]
 refine wpAnyH_ready (rs:=[2]) (by kernel_rfl) (by simp) ?_
 refine AllReadyH.cons rfl (fun K hK=>?_) AllReadyH.nil
 go_simp
 go_at_call 71
 refine (AEnd_any (HR6.out.later hb0_)).mono ?_
 rintro e u1 ⟨rfl,h1⟩
 have bu1:=Below.go hb0_ h1
 clear h1
 refine hK.out _ _ bu1 (fun _=>?_)
 clear hK K
 try simp only[Act.put,List.getElem_toArray,List.getElem_cons_zero,List.getElem_cons_succ,List.setIfInBounds_toArray,List.set_cons_zero,List.set_cons_succ]
 refine wpAnyH_ready (rs:=[3]) (by kernel_rfl) (by simp) ?_
 refine AllReadyH.cons rfl (fun K_ hK=>?_) AllReadyH.nil
 refine step_store_self (by simp[Region.wanted]) 39 _ _ rfl P #[.int .i64 x0,.int .i64 x1,.int .i64 x2,.int .i64 x3,.int .i64 x4] rfl rfl (HP6.out.later bu1) (by kernel_rfl) (by first | exact cA_one _ | simp[Value.oneCell']) ?_
 refine hK.out _ _ bu1 (fun _=>?_)
 clear hK K_
 try simp only[Act.put,List.getElem_toArray,List.getElem_cons_zero,List.getElem_cons_succ,List.setIfInBounds_toArray,List.set_cons_zero,List.set_cons_succ]
 refine wpAnyH_take (i:=4) (v:=?_) rfl (by kernel_rfl) (by kernel_rfl) (by kernel_rfl) (fun _ _ _ h=>h) (Or.inl ⟨by rfl,?_⟩) (by assumption) ?_
 rotate_left
 ·intro w' hS;go_simp;try (with_reducible rfl)
 try simp only[Act.put,List.getElem_toArray,List.getElem_cons_zero,List.getElem_cons_succ,List.setIfInBounds_toArray,List.set_cons_zero,List.set_cons_succ]
 refine wpAnyH_done (by kernel_rfl) ?_ _
 have HPz:=HP6.out.later bu1
 have HBz:=Below.go HB6.out bu1
 go_wp2_with (fail)
 have hL:=run_loadVar_mid (P:=Tryz.prog) _ P 0 39 ([.int .i64 x0,.int .i64 x1,.int .i64 x2,.int .i64 x3,.int .i64 x4]) _ HPz.cell Tryz.underlying39 rfl (by kernel_rfl)
 exact bodyPost_ret (v := .tuple #[.agg ([.int .i64 x0,.int .i64 x1,.int .i64 x2,.int .i64 x3,.int .i64 x4]).toArray,.int .i64 (endE N 9 (erN N 9))]) (res_two Tryz.results118 rfl hL rfl) rfl ⟨rfl,HBz⟩
set_option maxHeartbeats 8000000 in
theorem decLgt_any (F:Nat→Int) (q:Option Addr) (N c:Nat) (hF:∀ j,j<N→inB (F j)) (hN:N≤100000) (w:World) (hq:Byt w q N F) :
  Calls Tryz.prog 119 #[.slice q N c] w fun e w'=>e = .returned (.tuple #[(.agg #[.int .i64 (decLt F N 0),.int .i64 (decLt F N 1),.int .i64 (decLt F N 2),.int .i64 (decLt F N 3),.int .i64 (decLt F N 4),.int .i64 (decLt F N 5),.int .i64 (decLt F N 6),.int .i64 (decLt F N 7),.int .i64 (decLt F N 8),.int .i64 (decLt F N 9),.int .i64 (decLt F N 10),.int .i64 (decLt F N 11),.int .i64 (decLt F N 12)]),.int .i64 (endE N 31 (erN N 31))])∧Below w.heap.size w w':=by
 have HQ:=Lib.hid hq
 have NW:=Lib.hid (fun w hq=>New_any q N c F (by omega) w hq)
 have C0_0:=Lib.hid (fun K D w h=>Num_next (K:=K) (D:=D) (N:=N) (t:=0) (F:=F) (w:=w) 1 1 1 rfl rfl (by decide) (by decide) hF h)
 have w0:IntKind.i64.wrap (valN F N 0 1)=valN F N 0 1:=IntWalk.i64_in _ (by
  have a:=in_valN hF 0 1
  have b:=pw_le4 (W:=1) (by decide)
  omega)
 have C1_0:=Lib.hid (fun K D w h hD=>color_any (K:=K) (D:=D) (N:=N) (t:=1) (F:=F) (w:=w) 4 (by decide) (by decide) hF h hD)
 have C2_0:=Lib.hid (fun K D w h hD=>point_any (K:=K) (D:=D) (N:=N) (t:=13) (F:=F) (w:=w) hF h hD)
 have C2_1:=Lib.hid (fun K D w h hD=>point_any (K:=K) (D:=D) (N:=N) (t:=19) (F:=F) (w:=w) hF h hD)
 have C2_2:=Lib.hid (fun K D w h hD=>point_any (K:=K) (D:=D) (N:=N) (t:=25) (F:=F) (w:=w) hF h hD)
 clear hq hF hN
 have EQ:Hid ((.agg #[.int .i64 (decLt F N 0),.int .i64 (decLt F N 1),.int .i64 (decLt F N 2),.int .i64 (decLt F N 3),.int .i64 (decLt F N 4),.int .i64 (decLt F N 5),.int .i64 (decLt F N 6),.int .i64 (decLt F N 7),.int .i64 (decLt F N 8),.int .i64 (decLt F N 9),.int .i64 (decLt F N 10),.int .i64 (decLt F N 11),.int .i64 (decLt F N 12)])=(Value.agg ([.int .i64 (valN F N 0 1),.int .i64 (valN F N 1 4),.int .i64 (valN F N (1+4) 4),.int .i64 (valN F N (1+4+4) 4),.int .i64 (sgnN F N 13),.int .i64 (sgnN F N (13+2)),.int .i64 (sgnN F N (13+4)),.int .i64 (sgnN F N 19),.int .i64 (sgnN F N (19+2)),.int .i64 (sgnN F N (19+4)),.int .i64 (sgnN F N 25),.int .i64 (sgnN F N (25+2)),.int .i64 (sgnN F N (25+4))]).toArray)):=Lib.hid rfl
 rw[EQ.out]
 generalize valN F N 0 1=x0 at *
 generalize valN F N 1 4=x1 at *
 generalize valN F N (1+4) 4=x2 at *
 generalize valN F N (1+4+4) 4=x3 at *
 generalize sgnN F N 13=x4 at *
 generalize sgnN F N (13+2)=x5 at *
 generalize sgnN F N (13+4)=x6 at *
 generalize sgnN F N 19=x7 at *
 generalize sgnN F N (19+2)=x8 at *
 generalize sgnN F N (19+4)=x9 at *
 generalize sgnN F N 25=x10 at *
 generalize sgnN F N (25+2)=x11 at *
 generalize sgnN F N (25+4)=x12 at *
 go_enter Tryz.func119,Tryz.ntmps119
 go_upto_region 1 with fail
 obtain⟨W0,hW⟩:∃ W0,W0=(w.alloc (.cells #[.int .i64 0,.int .i64 0,.int .i64 0,.int .i64 0,.int .i64 0,.int .i64 0,.int .i64 0,.int .i64 0,.int .i64 0,.int .i64 0,.int .i64 0,.int .i64 0,.int .i64 0] 43)):=⟨_,rfl⟩
 have hB0:Below w.heap.size w W0:=hW ▸ (Below.al (Below.refl _ _))
 have HP:Hid (Own w.heap.size ([.int .i64 0,.int .i64 0,.int .i64 0,.int .i64 0,.int .i64 0,.int .i64 0,.int .i64 0,.int .i64 0,.int .i64 0,.int .i64 0,.int .i64 0,.int .i64 0,.int .i64 0]) W0):=Lib.hid (hW ▸ (show Own w.heap.size ([.int .i64 0,.int .i64 0,.int .i64 0,.int .i64 0,.int .i64 0,.int .i64 0,.int .i64 0,.int .i64 0,.int .i64 0,.int .i64 0,.int .i64 0,.int .i64 0,.int .i64 0]) (w.alloc (.cells #[.int .i64 0,.int .i64 0,.int .i64 0,.int .i64 0,.int .i64 0,.int .i64 0,.int .i64 0,.int .i64 0,.int .i64 0,.int .i64 0,.int .i64 0,.int .i64 0,.int .i64 0] 43)) from Own.newAt (by simp)))
 rw[← hW]
 clear hW
 obtain⟨P,eP⟩:∃ X,X=w.heap.size:=⟨_,rfl⟩
 rw[← eP] at HP ⊢
 have Pw:w.heap.size≤P:=by omega
 clear eP
 have HQ0:=Lib.hid (HQ.out.later hB0)
 clear HQ
 go_wp2_with (fail)
 go_at_call 69
 refine (NW.out _ HQ0.out).mono ?_
 rintro e y0 ⟨K,D,rfl,hK,hD,hDl,hr,hb⟩
 have nPK:P≠K:=by have:=HP.out.lt;omega
 have nDP:D≠P:=by have:=HP.out.lt;omega
 have Kw:w.heap.size≤K:=by have:=hB0.size;omega
 have HP0:=Lib.hid (HP.out.later hb);have HR0:=Lib.hid hr;have HB0:=Lib.hid (Below.go hB0 hb);have DL0:=Lib.hid hDl
 rw[show (0:Int)=erN N 0 from (if_pos (Nat.zero_le _)).symm] at HR0
 clear hK hD hDl hr hb hB0 HP HQ0 NW EQ
 go_wp2_with (fail)
 go_at_call 108
 refine (C0_0.out K D _ HR0.out).mono ?_
 rintro e y1 ⟨rfl,k1,k2⟩
 have HP1:=Lib.hid (HP0.out.but k2 nPK);have HR1:=Lib.hid k1;have HB1:=Lib.hid (HB0.out.trans (k2.below.mono Kw));have DL1:=Lib.hid (Nat.lt_of_lt_of_le DL0.out k2.below.size)
 clear k1 k2 HP0 HR0 HB0 DL0 C0_0
 have oP:=HP1.out
 have P0:=oP.at 0 _ rfl
 have Pf0:=oP.ok 0 (Nat.le_of_ble_eq_true rfl)
 have P1:=oP.at 1 _ rfl
 have Pf1:=oP.ok 1 (Nat.le_of_ble_eq_true rfl)
 have P2:=oP.at 2 _ rfl
 have Pf2:=oP.ok 2 (Nat.le_of_ble_eq_true rfl)
 have P3:=oP.at 3 _ rfl
 have Pf3:=oP.ok 3 (Nat.le_of_ble_eq_true rfl)
 have P4:=oP.at 4 _ rfl
 have Pf4:=oP.ok 4 (Nat.le_of_ble_eq_true rfl)
 have P5:=oP.at 5 _ rfl
 have Pf5:=oP.ok 5 (Nat.le_of_ble_eq_true rfl)
 have P6:=oP.at 6 _ rfl
 have Pf6:=oP.ok 6 (Nat.le_of_ble_eq_true rfl)
 have P7:=oP.at 7 _ rfl
 have Pf7:=oP.ok 7 (Nat.le_of_ble_eq_true rfl)
 have P8:=oP.at 8 _ rfl
 have Pf8:=oP.ok 8 (Nat.le_of_ble_eq_true rfl)
 have P9:=oP.at 9 _ rfl
 have Pf9:=oP.ok 9 (Nat.le_of_ble_eq_true rfl)
 have P10:=oP.at 10 _ rfl
 have Pf10:=oP.ok 10 (Nat.le_of_ble_eq_true rfl)
 have P11:=oP.at 11 _ rfl
 have Pf11:=oP.ok 11 (Nat.le_of_ble_eq_true rfl)
 have P12:=oP.at 12 _ rfl
 have Pf12:=oP.ok 12 (Nat.le_of_ble_eq_true rfl)
 have Pl:=oP.lt
 clear oP
 go_upto_region 3 with fail
 clear P0 Pf0 P1 Pf1 P2 Pf2 P3 Pf3 P4 Pf4 P5 Pf5 P6 Pf6 P7 Pf7 P8 Pf8 P9 Pf9 P10 Pf10 P11 Pf11 P12 Pf12 Pl
 rw[show (y1.setCell ⟨P,0,none⟩ (.int .i64 x0))=y1.setCells P 0 [.int .i64 x0] from rfl]
 have HPn:Hid (Own P ([.int .i64 x0,.int .i64 0,.int .i64 0,.int .i64 0,.int .i64 0,.int .i64 0,.int .i64 0,.int .i64 0,.int .i64 0,.int .i64 0,.int .i64 0,.int .i64 0,.int .i64 0]) (y1.setCells P 0 [.int .i64 x0])):=Lib.hid (show Own P (over _ 0 [.int .i64 x0]) _ from Own.part HP1.out (Nat.le_of_ble_eq_true rfl))
 have HRn:=Lib.hid (Rd.far HR1.out (But.store (K:=P) (o:=0) (vs:=[.int .i64 x0])) (Ne.symm nPK) nDP)
 have HBn:Hid (Below w.heap.size w (y1.setCells P 0 [.int .i64 x0])):=Lib.hid (Below.setCells HB1.out Pw _ _)
 have DLn:Hid (D<(y1.setCells P 0 [.int .i64 x0]).heap.size):=Lib.hid (by rw[size_setCells];exact DL1.out)
 clear HP1 HR1 HB1 DL1
 generalize y1.setCells P 0 [.int .i64 x0]=y2 at *
 have HP2:=HPn;have HR2:=HRn;have HB2:=HBn;have DL2:=DLn
 clear HPn HRn HBn DLn
 go_wp2_with (fail)
 go_at_call 144
 refine (C1_0.out K D _ HR2.out (.inr DL2.out)).mono ?_
 rintro e y3 ⟨rfl,k1,k2⟩
 have HP3:=Lib.hid (HP2.out.but k2 nPK);have HR3:=Lib.hid k1;have HB3:=Lib.hid (HB2.out.trans (k2.below.mono Kw));have DL3:=Lib.hid (Nat.lt_of_lt_of_le DL2.out k2.below.size)
 clear k1 k2 HP2 HR2 HB2 DL2 C1_0
 have oP:=HP3.out
 have P0:=oP.at 0 _ rfl
 have Pf0:=oP.ok 0 (Nat.le_of_ble_eq_true rfl)
 have P1:=oP.at 1 _ rfl
 have Pf1:=oP.ok 1 (Nat.le_of_ble_eq_true rfl)
 have P2:=oP.at 2 _ rfl
 have Pf2:=oP.ok 2 (Nat.le_of_ble_eq_true rfl)
 have P3:=oP.at 3 _ rfl
 have Pf3:=oP.ok 3 (Nat.le_of_ble_eq_true rfl)
 have P4:=oP.at 4 _ rfl
 have Pf4:=oP.ok 4 (Nat.le_of_ble_eq_true rfl)
 have P5:=oP.at 5 _ rfl
 have Pf5:=oP.ok 5 (Nat.le_of_ble_eq_true rfl)
 have P6:=oP.at 6 _ rfl
 have Pf6:=oP.ok 6 (Nat.le_of_ble_eq_true rfl)
 have P7:=oP.at 7 _ rfl
 have Pf7:=oP.ok 7 (Nat.le_of_ble_eq_true rfl)
 have P8:=oP.at 8 _ rfl
 have Pf8:=oP.ok 8 (Nat.le_of_ble_eq_true rfl)
 have P9:=oP.at 9 _ rfl
 have Pf9:=oP.ok 9 (Nat.le_of_ble_eq_true rfl)
 have P10:=oP.at 10 _ rfl
 have Pf10:=oP.ok 10 (Nat.le_of_ble_eq_true rfl)
 have P11:=oP.at 11 _ rfl
 have Pf11:=oP.ok 11 (Nat.le_of_ble_eq_true rfl)
 have P12:=oP.at 12 _ rfl
 have Pf12:=oP.ok 12 (Nat.le_of_ble_eq_true rfl)
 have Pl:=oP.lt
 clear oP
 go_upto_region 4 with fail
 clear P0 Pf0 P1 Pf1 P2 Pf2 P3 Pf3 P4 Pf4 P5 Pf5 P6 Pf6 P7 Pf7 P8 Pf8 P9 Pf9 P10 Pf10 P11 Pf11 P12 Pf12 Pl
 rw[show (((y3.setCell ⟨P,1,none⟩ (.int .i64 x1)).setCell ⟨P,2,none⟩ (.int .i64 x2)).setCell ⟨P,3,none⟩ (.int .i64 x3))=y3.setCells P 1 [.int .i64 x1,.int .i64 x2,.int .i64 x3] from rfl]
 have HPn:Hid (Own P ([.int .i64 x0,.int .i64 x1,.int .i64 x2,.int .i64 x3,.int .i64 0,.int .i64 0,.int .i64 0,.int .i64 0,.int .i64 0,.int .i64 0,.int .i64 0,.int .i64 0,.int .i64 0]) (y3.setCells P 1 [.int .i64 x1,.int .i64 x2,.int .i64 x3])):=Lib.hid (show Own P (over _ 1 [.int .i64 x1,.int .i64 x2,.int .i64 x3]) _ from Own.part HP3.out (Nat.le_of_ble_eq_true rfl))
 have HRn:=Lib.hid (Rd.far HR3.out (But.store (K:=P) (o:=1) (vs:=[.int .i64 x1,.int .i64 x2,.int .i64 x3])) (Ne.symm nPK) nDP)
 have HBn:Hid (Below w.heap.size w (y3.setCells P 1 [.int .i64 x1,.int .i64 x2,.int .i64 x3])):=Lib.hid (Below.setCells HB3.out Pw _ _)
 have DLn:Hid (D<(y3.setCells P 1 [.int .i64 x1,.int .i64 x2,.int .i64 x3]).heap.size):=Lib.hid (by rw[size_setCells];exact DL3.out)
 clear HP3 HR3 HB3 DL3
 generalize y3.setCells P 1 [.int .i64 x1,.int .i64 x2,.int .i64 x3]=y4 at *
 have HP4:=HPn;have HR4:=HRn;have HB4:=HBn;have DL4:=DLn
 clear HPn HRn HBn DLn
 go_wp2_with (fail)
 go_at_call 145
 refine (C2_0.out K D _ HR4.out (.inr DL4.out)).mono ?_
 rintro e y5 ⟨rfl,k1,k2⟩
 have HP5:=Lib.hid (HP4.out.but k2 nPK);have HR5:=Lib.hid k1;have HB5:=Lib.hid (HB4.out.trans (k2.below.mono Kw));have DL5:=Lib.hid (Nat.lt_of_lt_of_le DL4.out k2.below.size)
 clear k1 k2 HP4 HR4 HB4 DL4 C2_0
 go_wp2_with (fail)
 go_at_call 145
 refine (C2_1.out K D _ HR5.out (.inr DL5.out)).mono ?_
 rintro e y6 ⟨rfl,k1,k2⟩
 have HP6:=Lib.hid (HP5.out.but k2 nPK);have HR6:=Lib.hid k1;have HB6:=Lib.hid (HB5.out.trans (k2.below.mono Kw));have DL6:=Lib.hid (Nat.lt_of_lt_of_le DL5.out k2.below.size)
 clear k1 k2 HP5 HR5 HB5 DL5 C2_1
 go_wp2_with (fail)
 go_at_call 145
 refine (C2_2.out K D _ HR6.out (.inr DL6.out)).mono ?_
 rintro e y7 ⟨rfl,k1,k2⟩
 have HP7:=Lib.hid (HP6.out.but k2 nPK);have HR7:=Lib.hid k1;have HB7:=Lib.hid (HB6.out.trans (k2.below.mono Kw));have DL7:=Lib.hid (Nat.lt_of_lt_of_le DL6.out k2.below.size)
 clear k1 k2 HP6 HR6 HB6 DL6 C2_2
 have oP:=HP7.out
 have P0:=oP.at 0 _ rfl
 have Pf0:=oP.ok 0 (Nat.le_of_ble_eq_true rfl)
 have P1:=oP.at 1 _ rfl
 have Pf1:=oP.ok 1 (Nat.le_of_ble_eq_true rfl)
 have P2:=oP.at 2 _ rfl
 have Pf2:=oP.ok 2 (Nat.le_of_ble_eq_true rfl)
 have P3:=oP.at 3 _ rfl
 have Pf3:=oP.ok 3 (Nat.le_of_ble_eq_true rfl)
 have P4:=oP.at 4 _ rfl
 have Pf4:=oP.ok 4 (Nat.le_of_ble_eq_true rfl)
 have P5:=oP.at 5 _ rfl
 have Pf5:=oP.ok 5 (Nat.le_of_ble_eq_true rfl)
 have P6:=oP.at 6 _ rfl
 have Pf6:=oP.ok 6 (Nat.le_of_ble_eq_true rfl)
 have P7:=oP.at 7 _ rfl
 have Pf7:=oP.ok 7 (Nat.le_of_ble_eq_true rfl)
 have P8:=oP.at 8 _ rfl
 have Pf8:=oP.ok 8 (Nat.le_of_ble_eq_true rfl)
 have P9:=oP.at 9 _ rfl
 have Pf9:=oP.ok 9 (Nat.le_of_ble_eq_true rfl)
 have P10:=oP.at 10 _ rfl
 have Pf10:=oP.ok 10 (Nat.le_of_ble_eq_true rfl)
 have P11:=oP.at 11 _ rfl
 have Pf11:=oP.ok 11 (Nat.le_of_ble_eq_true rfl)
 have P12:=oP.at 12 _ rfl
 have Pf12:=oP.ok 12 (Nat.le_of_ble_eq_true rfl)
 have Pl:=oP.lt
 clear oP
 go_upto_region 5 with fail
 clear P0 Pf0 P1 Pf1 P2 Pf2 P3 Pf3 P4 Pf4 P5 Pf5 P6 Pf6 P7 Pf7 P8 Pf8 P9 Pf9 P10 Pf10 P11 Pf11 P12 Pf12 Pl
 rw[show (((((((((y7.setCell ⟨P,4,none⟩ (.int .i64 x4)).setCell ⟨P,5,none⟩ (.int .i64 x5)).setCell ⟨P,6,none⟩ (.int .i64 x6)).setCell ⟨P,7,none⟩ (.int .i64 x7)).setCell ⟨P,8,none⟩ (.int .i64 x8)).setCell ⟨P,9,none⟩ (.int .i64 x9)).setCell ⟨P,10,none⟩ (.int .i64 x10)).setCell ⟨P,11,none⟩ (.int .i64 x11)).setCell ⟨P,12,none⟩ (.int .i64 x12))=y7.setCells P 4 [.int .i64 x4,.int .i64 x5,.int .i64 x6,.int .i64 x7,.int .i64 x8,.int .i64 x9,.int .i64 x10,.int .i64 x11,.int .i64 x12] from rfl]
 have HPn:Hid (Own P ([.int .i64 x0,.int .i64 x1,.int .i64 x2,.int .i64 x3,.int .i64 x4,.int .i64 x5,.int .i64 x6,.int .i64 x7,.int .i64 x8,.int .i64 x9,.int .i64 x10,.int .i64 x11,.int .i64 x12]) (y7.setCells P 4 [.int .i64 x4,.int .i64 x5,.int .i64 x6,.int .i64 x7,.int .i64 x8,.int .i64 x9,.int .i64 x10,.int .i64 x11,.int .i64 x12])):=Lib.hid (show Own P (over _ 4 [.int .i64 x4,.int .i64 x5,.int .i64 x6,.int .i64 x7,.int .i64 x8,.int .i64 x9,.int .i64 x10,.int .i64 x11,.int .i64 x12]) _ from Own.part HP7.out (Nat.le_of_ble_eq_true rfl))
 have HRn:=Lib.hid (Rd.far HR7.out (But.store (K:=P) (o:=4) (vs:=[.int .i64 x4,.int .i64 x5,.int .i64 x6,.int .i64 x7,.int .i64 x8,.int .i64 x9,.int .i64 x10,.int .i64 x11,.int .i64 x12])) (Ne.symm nPK) nDP)
 have HBn:Hid (Below w.heap.size w (y7.setCells P 4 [.int .i64 x4,.int .i64 x5,.int .i64 x6,.int .i64 x7,.int .i64 x8,.int .i64 x9,.int .i64 x10,.int .i64 x11,.int .i64 x12])):=Lib.hid (Below.setCells HB7.out Pw _ _)
 have DLn:Hid (D<(y7.setCells P 4 [.int .i64 x4,.int .i64 x5,.int .i64 x6,.int .i64 x7,.int .i64 x8,.int .i64 x9,.int .i64 x10,.int .i64 x11,.int .i64 x12]).heap.size):=Lib.hid (by rw[size_setCells];exact DL7.out)
 clear HP7 HR7 HB7 DL7
 generalize y7.setCells P 4 [.int .i64 x4,.int .i64 x5,.int .i64 x6,.int .i64 x7,.int .i64 x8,.int .i64 x9,.int .i64 x10,.int .i64 x11,.int .i64 x12]=y8 at *
 have HP8:=HPn;have HR8:=HRn;have HB8:=HBn;have DL8:=DLn
 clear HPn HRn HBn DLn
 refine wp_region_held_drew (S:=fun w'=>Below y8.heap.size y8 w') (by kernel_rfl) (Below.refl _ _).drew (fun hb0_=>?_)
 refine wpAnyH_take (i:=0) (v := .agg ([.int .i64 x0,.int .i64 x1,.int .i64 x2,.int .i64 x3,.int .i64 x4,.int .i64 x5,.int .i64 x6,.int .i64 x7,.int .i64 x8,.int .i64 x9,.int .i64 x10,.int .i64 x11,.int .i64 x12]).toArray) rfl (by kernel_rfl) (by kernel_rfl) (by kernel_rfl) (fun _ _ _ h=>h) (yieldsIf_load_mid (by rfl) 43 _ rfl P 0 rfl ([.int .i64 x0,.int .i64 x1,.int .i64 x2,.int .i64 x3,.int .i64 x4,.int .i64 x5,.int .i64 x6,.int .i64 x7,.int .i64 x8,.int .i64 x9,.int .i64 x10,.int .i64 x11,.int .i64 x12]) _ (fun w h=>(HP8.out.later h).cell) Tryz.underlying43 rfl (by kernel_rfl)) (by assumption) ?_
 try simp only[Act.put,List.getElem_toArray,List.getElem_cons_zero,List.getElem_cons_succ,List.setIfInBounds_toArray,List.set_cons_zero,List.set_cons_succ]
 refine wpAnyH_take (i:=1) (v:=?_) rfl (by kernel_rfl) (by kernel_rfl) (by kernel_rfl) (fun _ _ _ h=>h) (Or.inl ⟨by rfl,?_⟩) (by assumption) ?_
 rotate_left
 ·intro w' hS;go_simp;try (with_reducible rfl)
 try simp only[Act.put,List.getElem_toArray,List.getElem_cons_zero,List.getElem_cons_succ,List.setIfInBounds_toArray,List.set_cons_zero,List.set_cons_succ]
 refine wpAnyH_ready (rs:=[2]) (by kernel_rfl) (by simp) ?_
 refine AllReadyH.cons rfl (fun K hK=>?_) AllReadyH.nil
 go_simp
 go_at_call 71
 refine (AEnd_any (HR8.out.later hb0_)).mono ?_
 rintro e u1 ⟨rfl,h1⟩
 have bu1:=Below.go hb0_ h1
 clear h1
 refine hK.out _ _ bu1 (fun _=>?_)
 clear hK K
 try simp only[Act.put,List.getElem_toArray,List.getElem_cons_zero,List.getElem_cons_succ,List.setIfInBounds_toArray,List.set_cons_zero,List.set_cons_succ]
 refine wpAnyH_ready (rs:=[3]) (by kernel_rfl) (by simp) ?_
 refine AllReadyH.cons rfl (fun K_ hK=>?_) AllReadyH.nil
 refine step_store_self (by simp[Region.wanted]) 43 _ _ rfl P #[.int .i64 x0,.int .i64 x1,.int .i64 x2,.int .i64 x3,.int .i64 x4,.int .i64 x5,.int .i64 x6,.int .i64 x7,.int .i64 x8,.int .i64 x9,.int .i64 x10,.int .i64 x11,.int .i64 x12] rfl rfl (HP8.out.later bu1) (by kernel_rfl) (by first | exact cA_one _ | simp[Value.oneCell']) ?_
 refine hK.out _ _ bu1 (fun _=>?_)
 clear hK K_
 try simp only[Act.put,List.getElem_toArray,List.getElem_cons_zero,List.getElem_cons_succ,List.setIfInBounds_toArray,List.set_cons_zero,List.set_cons_succ]
 refine wpAnyH_take (i:=4) (v:=?_) rfl (by kernel_rfl) (by kernel_rfl) (by kernel_rfl) (fun _ _ _ h=>h) (Or.inl ⟨by rfl,?_⟩) (by assumption) ?_
 rotate_left
 ·intro w' hS;go_simp;try (with_reducible rfl)
 try simp only[Act.put,List.getElem_toArray,List.getElem_cons_zero,List.getElem_cons_succ,List.setIfInBounds_toArray,List.set_cons_zero,List.set_cons_succ]
 refine wpAnyH_done (by kernel_rfl) ?_ _
 have HPz:=HP8.out.later bu1
 have HBz:=Below.go HB8.out bu1
 go_wp2_with (fail)
 have hL:=run_loadVar_mid (P:=Tryz.prog) _ P 0 43 ([.int .i64 x0,.int .i64 x1,.int .i64 x2,.int .i64 x3,.int .i64 x4,.int .i64 x5,.int .i64 x6,.int .i64 x7,.int .i64 x8,.int .i64 x9,.int .i64 x10,.int .i64 x11,.int .i64 x12]) _ HPz.cell Tryz.underlying43 rfl (by kernel_rfl)
 exact bodyPost_ret (v := .tuple #[.agg ([.int .i64 x0,.int .i64 x1,.int .i64 x2,.int .i64 x3,.int .i64 x4,.int .i64 x5,.int .i64 x6,.int .i64 x7,.int .i64 x8,.int .i64 x9,.int .i64 x10,.int .i64 x11,.int .i64 x12]).toArray,.int .i64 (endE N 31 (erN N 31))]) (res_two Tryz.results119 rfl hL rfl) rfl ⟨rfl,HBz⟩
end Go.Proofs.YtbilamnnneddmaaGreatDoor
namespace Go.Proofs.YtbilamnnneddmaaGreatDoor
set_option linter.unusedVariables false
set_option maxRecDepth 2000
set_option linter.unusedSimpArgs false
open Go.RowKit
def chk2 (z:Int) (b:Bool):Int:=if z=0 then (if b=true then 0 else 5) else z
theorem there_newn {W:World} {cs:List Value} {T:TypeId} {n:Nat} (h:cs.length=n):(W.alloc (.cells cs.toArray T)).there W.heap.size 0 n:=h ▸ (Own.new W cs T).free
theorem room_1 {M:Msh} (h:chkM M=0):encN M.nv M.nu M.nt≤2048:=by
 have g:=chk_good (show chkF M.nv M.nu M.nt M.V M.U M.R=0 from h)
 have h1:=g.hn;have h2:=g.ht;have h3:=g.hu
 unfold encN
 omega
theorem room_2 {M:Txr} (h:chkT M.S M.n M.f=0):1+M.n*3≤1024:=by
 obtain⟨s,e1,e2,e3⟩:=(tchk_good h).cnt
 rw[e3]
 rcases e2 with rfl | rfl | rfl | rfl | rfl<;>decide
set_option maxHeartbeats 16000000 in
theorem Encode_1 (A:Ast) (hF:FewA A) (w:World) (hA:AstAt A w) (hg:Has 0 0 CapL w):Calls Tryz.prog 21 #[(.agg (cA ⟨1,A.M,A.X,A.g,A.l⟩).toArray)] w fun e w'=>(∃ v,e = .returned (.tuple #[v,.int .i64 (chk2 (chkM A.M) (sameA ⟨1,nilM,A.X,A.g,A.l⟩ (kinA 1)))])∧RowR w' v (encL (chk2 (chkM A.M) (sameA ⟨1,nilM,A.X,A.g,A.l⟩ (kinA 1))) (encN A.M.nv A.M.nu A.M.nt)) (encF A.M.nv A.M.nu A.M.nt A.M.V A.M.U A.M.R))∧Below w.heap.size w w':=by
 have AQ:Hid (∀ W,Below w.heap.size w W→AstAt A W):=Lib.hid (fun W hb=>hA.later hb)
 have GQ:Hid (∀ W,Below w.heap.size w W→Has 0 0 CapL W):=Lib.hid (fun W hb=>hg.later hb)
 have SB:=Lib.hid (fun W (h:AstAt A W)=>Same_any ⟨1,nilM,A.X,A.g,A.l⟩ (kinA 1) W ⟨nilM_at _,h.x⟩ (kinA_at _ _) ⟨Nat.zero_le _,Nat.zero_le _,Nat.zero_le _,hF.x⟩)
 have RM:Hid (chkM A.M=0→encN A.M.nv A.M.nu A.M.nt≤2048):=Lib.hid (fun h=>room_1 h)
 obtain⟨z,ez⟩:∃ z,chkM A.M=z:=⟨_,rfl⟩
 obtain⟨b,eb⟩:∃ b,sameA ⟨1,nilM,A.X,A.g,A.l⟩ (kinA 1)=b:=⟨_,rfl⟩
 have CON:=Lib.hid (encode_1 A)
 have EB:=Lib.hid eb
 rw[ez] at CON RM ⊢
 rw[eb]
 have HF:=Lib.hid hF
 obtain⟨len,el⟩:∃ n,encN A.M.nv A.M.nu A.M.nt=n:=⟨_,rfl⟩
 have CON:=Lib.hid (show ∀ (w:World),AstAt A w→Calls Tryz.prog 49 #[(.agg (cA ⟨1,A.M,A.X,A.g,A.l⟩).toArray)] w fun e w'=>(∃ v,e = .returned (.tuple #[v,(.agg (cA ⟨1,nilM,A.X,A.g,A.l⟩).toArray),.int .i64 z])∧RowR w' v (encL z (encN A.M.nv A.M.nu A.M.nt)) (encF A.M.nv A.M.nu A.M.nt A.M.V A.M.U A.M.R))∧Below w.heap.size w w' from CON.out)
 rw[el] at CON RM ⊢
 clear hA hg ez eb el hF
 go_enter Tryz.func21,Tryz.ntmps21
 go_upto_region 1 with fail
 obtain⟨W0,hW⟩:∃ W0,W0=(w.alloc (.cells (cA ⟨1,A.M,A.X,A.g,A.l⟩).toArray 45)):=⟨_,rfl⟩
 have hB0:Below w.heap.size w W0:=hW ▸ (Below.al (Below.refl _ _))
 have HP:Hid (Own w.heap.size ((cA ⟨1,A.M,A.X,A.g,A.l⟩)) W0):=Lib.hid (hW ▸ (show Own w.heap.size ((cA ⟨1,A.M,A.X,A.g,A.l⟩)) (w.alloc (.cells (cA ⟨1,A.M,A.X,A.g,A.l⟩).toArray 45)) from Own.newAt (by simp)))
 rw[← hW]
 clear hW
 obtain⟨P,eP⟩:∃ X,X=w.heap.size:=⟨_,rfl⟩
 rw[← eP] at HP ⊢
 have Pw:w.heap.size≤P:=by omega
 clear eP
 go_wp2_with (refine wpList_load_mid rfl 45 _ rfl P 0 rfl ((cA ⟨1,A.M,A.X,A.g,A.l⟩)) _ HP.out.cell Tryz.underlying45 rfl (by kernel_rfl) ?_)
 go_at_call 49
 refine (CON.out _ (AQ.out _ hB0)).mono ?_
 rintro e w1 ⟨⟨v,rfl,hr⟩,hb⟩
 obtain⟨q,c,rfl,hc1,hc2,hy⟩:=hr
 have BY:=Lib.hid hy;have CC:=Lib.hid (And.intro hc1 hc2)
 have HP1:=Lib.hid (HP.out.later hb)
 have hB1:=Below.go hB0 hb
 clear hy hc1 hc2 hb hB0 HP CON
 go_upto_region 2 with (refine wpList_store_mid rfl 45 _ _ rfl _ 0 (cA ⟨1,nilM,A.X,A.g,A.l⟩).toArray rfl rfl (there_newn (cs:=[.int .i64 0,.slice none 0 0,.slice none 0 0,.slice none 0 0,.int .i64 0,.slice none 0 0,.int .i64 0,.int .i64 0,.int .i64 0,.int .i64 0,.int .i64 0,.int .i64 0,.int .i64 0,.int .i64 0,.int .i64 0,.int .i64 0,.int .i64 0,.int .i64 0,.int .i64 0,.int .i64 0,.int .i64 0,.int .i64 0,.int .i64 0,.int .i64 0]) (by first | rfl | simp)) (by kernel_rfl) (by first | exact cA_one _ | simp[Value.oneCell']) ?_;(obtain⟨W2,hW2⟩:∃ W,W=(w1.alloc (.cells #[.int .i64 0,.slice none 0 0,.slice none 0 0,.slice none 0 0,.int .i64 0,.slice none 0 0,.int .i64 0,.int .i64 0,.int .i64 0,.int .i64 0,.int .i64 0,.int .i64 0,.int .i64 0,.int .i64 0,.int .i64 0,.int .i64 0,.int .i64 0,.int .i64 0,.int .i64 0,.int .i64 0,.int .i64 0,.int .i64 0,.int .i64 0,.int .i64 0] 45)).setCells w1.heap.size 0 ((cA ⟨1,nilM,A.X,A.g,A.l⟩)):=⟨_,rfl⟩);have hbx:Below w1.heap.size w1 W2:=hW2 ▸ Below.setCells (Below.al (Below.refl _ _)) (Nat.le_refl _) _ _;have HQ:Hid (Own w1.heap.size ((cA ⟨1,nilM,A.X,A.g,A.l⟩)) W2):=Lib.hid (hW2 ▸ Own.store (Own.new _ [.int .i64 0,.slice none 0 0,.slice none 0 0,.slice none 0 0,.int .i64 0,.slice none 0 0,.int .i64 0,.int .i64 0,.int .i64 0,.int .i64 0,.int .i64 0,.int .i64 0,.int .i64 0,.int .i64 0,.int .i64 0,.int .i64 0,.int .i64 0,.int .i64 0,.int .i64 0,.int .i64 0,.int .i64 0,.int .i64 0,.int .i64 0,.int .i64 0] _) rfl);change wpList _ _ _ _ _ ((w1.alloc (.cells #[.int .i64 0,.slice none 0 0,.slice none 0 0,.slice none 0 0,.int .i64 0,.slice none 0 0,.int .i64 0,.int .i64 0,.int .i64 0,.int .i64 0,.int .i64 0,.int .i64 0,.int .i64 0,.int .i64 0,.int .i64 0,.int .i64 0,.int .i64 0,.int .i64 0,.int .i64 0,.int .i64 0,.int .i64 0,.int .i64 0,.int .i64 0,.int .i64 0] 45)).setCells w1.heap.size 0 ((cA ⟨1,nilM,A.X,A.g,A.l⟩)));rw[← hW2];clear hW2)
 obtain⟨Q,eQ⟩:∃ X,X=w1.heap.size:=⟨_,rfl⟩
 rw[← eQ] at HQ ⊢
 clear eQ
 have hB2:=Below.go hB1 hbx
 have HP2:=Lib.hid (HP1.out.later hbx);have BY2:=Lib.hid (BY.out.later hbx)
 clear HP1 BY hbx hB1
 by_cases hz:z=0
 ·subst hz
  have RL:=Lib.hid (RM.out rfl)
  clear RM
  have oP:=HP2.out
  have P0:=oP.at 0 _ rfl
  have Pl:=oP.lt
  clear oP
  go_wp2_with (refine wpList_load_mid rfl 45 _ rfl Q 0 rfl ((cA ⟨1,nilM,A.X,A.g,A.l⟩)) _ HQ.out.cell Tryz.underlying45 rfl (by kernel_rfl) ?_)
  clear P0 Pl
  go_at_call 23
  refine (SB.out _ (AQ.out _ hB2)).mono ?_
  rintro e w3 ⟨rfl,hb⟩
  rw[EB.out]
  have hB3:=Below.go hB2 hb
  have HP3:=Lib.hid (HP2.out.later hb);have BY3:=Lib.hid (BY2.out.later hb)
  clear hB2 hb HP2 BY2 HQ SB AQ
  cases b with
  | false =>
   go_wp2_with (fail)
   exact bodyPost_ret (v := .tuple #[.slice none 0 0,.int .i64 5]) (by simp[results,Tryz.results21,go_sem]) rfl ⟨⟨_,rfl,none,0,rfl,Nat.le_refl _,by decide,.inl rfl⟩,hB3⟩
  | true =>
   have oP:=HP3.out
   have P0:=oP.at 0 _ rfl
   have Pl:=oP.lt
   clear oP
   go_wp2_with (fail)
   clear P0 Pl
   go_at_call 50
   refine (Cap_any 1 _ (GQ.out _ hB3)).mono ?_
   rintro e w4 ⟨rfl,hw⟩
   subst hw
   rw[show capF 1=2048 from rfl]
   have d9:decide ((2048:Int)<(len:Int))=false:=decide_eq_false (by have:=RL.out;omega)
   have NL:encL 0 len=len:=rfl
   go_wp2_with (fail)
   exact bodyPost_ret (v := .tuple #[.slice q len c,.int .i64 0]) (by simp[results,Tryz.results21,go_sem]) rfl ⟨⟨_,rfl,q,c,rfl,CC.out.1,CC.out.2,BY3.out⟩,hB3⟩
 ·have hd:(z != 0)=true:=by simpa using hz
  have HZ:Hid (chk2 z b=z):=Lib.hid (if_neg hz)
  have HL:Hid (encL z len=0):=Lib.hid (if_neg hz)
  go_wp2_with (fail)
  exact bodyPost_ret (v := .tuple #[.slice none 0 0,.int .i64 z]) (by simp[results,Tryz.results21,go_sem]) rfl ⟨⟨_,by rw[HZ.out],none,0,by rw[HZ.out,HL.out],Nat.le_of_eq (by rw[HZ.out];exact HL.out),by decide,.inl (by rw[HZ.out];exact HL.out)⟩,hB2⟩
set_option maxHeartbeats 16000000 in
theorem Encode_2 (A:Ast) (hF:FewA A) (w:World) (hA:AstAt A w) (hg:Has 0 0 CapL w):Calls Tryz.prog 21 #[(.agg (cA ⟨2,A.M,A.X,A.g,A.l⟩).toArray)] w fun e w'=>(∃ v,e = .returned (.tuple #[v,.int .i64 (chk2 (chkT A.X.S A.X.n A.X.f) (sameA ⟨2,A.M,nilX,A.g,A.l⟩ (kinA 2)))])∧RowR w' v (encL (chk2 (chkT A.X.S A.X.n A.X.f) (sameA ⟨2,A.M,nilX,A.g,A.l⟩ (kinA 2))) (1+A.X.n*3)) (encT A.X.S A.X.f))∧Below w.heap.size w w':=by
 have AQ:Hid (∀ W,Below w.heap.size w W→AstAt A W):=Lib.hid (fun W hb=>hA.later hb)
 have GQ:Hid (∀ W,Below w.heap.size w W→Has 0 0 CapL W):=Lib.hid (fun W hb=>hg.later hb)
 have SB:=Lib.hid (fun W (h:AstAt A W)=>Same_any ⟨2,A.M,nilX,A.g,A.l⟩ (kinA 2) W ⟨h.m,nilX_at _⟩ (kinA_at _ _) ⟨hF.v,hF.u,hF.t,Nat.zero_le _⟩)
 have RM:Hid (chkT A.X.S A.X.n A.X.f=0→1+A.X.n*3≤1024):=Lib.hid (fun h=>room_2 h)
 obtain⟨z,ez⟩:∃ z,chkT A.X.S A.X.n A.X.f=z:=⟨_,rfl⟩
 obtain⟨b,eb⟩:∃ b,sameA ⟨2,A.M,nilX,A.g,A.l⟩ (kinA 2)=b:=⟨_,rfl⟩
 have CON:=Lib.hid (encode_2 A)
 have EB:=Lib.hid eb
 rw[ez] at CON RM ⊢
 rw[eb]
 have HF:=Lib.hid hF
 obtain⟨len,el⟩:∃ n,1+A.X.n*3=n:=⟨_,rfl⟩
 have CON:=Lib.hid (show ∀ (w:World),AstAt A w→Calls Tryz.prog 49 #[(.agg (cA ⟨2,A.M,A.X,A.g,A.l⟩).toArray)] w fun e w'=>(∃ v,e = .returned (.tuple #[v,(.agg (cA ⟨2,A.M,nilX,A.g,A.l⟩).toArray),.int .i64 z])∧RowR w' v (encL z (1+A.X.n*3)) (encT A.X.S A.X.f))∧Below w.heap.size w w' from CON.out)
 rw[el] at CON RM ⊢
 clear hA hg ez eb el hF
 go_enter Tryz.func21,Tryz.ntmps21
 go_upto_region 1 with fail
 obtain⟨W0,hW⟩:∃ W0,W0=(w.alloc (.cells (cA ⟨2,A.M,A.X,A.g,A.l⟩).toArray 45)):=⟨_,rfl⟩
 have hB0:Below w.heap.size w W0:=hW ▸ (Below.al (Below.refl _ _))
 have HP:Hid (Own w.heap.size ((cA ⟨2,A.M,A.X,A.g,A.l⟩)) W0):=Lib.hid (hW ▸ (show Own w.heap.size ((cA ⟨2,A.M,A.X,A.g,A.l⟩)) (w.alloc (.cells (cA ⟨2,A.M,A.X,A.g,A.l⟩).toArray 45)) from Own.newAt (by simp)))
 rw[← hW]
 clear hW
 obtain⟨P,eP⟩:∃ X,X=w.heap.size:=⟨_,rfl⟩
 rw[← eP] at HP ⊢
 have Pw:w.heap.size≤P:=by omega
 clear eP
 go_wp2_with (refine wpList_load_mid rfl 45 _ rfl P 0 rfl ((cA ⟨2,A.M,A.X,A.g,A.l⟩)) _ HP.out.cell Tryz.underlying45 rfl (by kernel_rfl) ?_)
 go_at_call 49
 refine (CON.out _ (AQ.out _ hB0)).mono ?_
 rintro e w1 ⟨⟨v,rfl,hr⟩,hb⟩
 obtain⟨q,c,rfl,hc1,hc2,hy⟩:=hr
 have BY:=Lib.hid hy;have CC:=Lib.hid (And.intro hc1 hc2)
 have HP1:=Lib.hid (HP.out.later hb)
 have hB1:=Below.go hB0 hb
 clear hy hc1 hc2 hb hB0 HP CON
 go_upto_region 2 with (refine wpList_store_mid rfl 45 _ _ rfl _ 0 (cA ⟨2,A.M,nilX,A.g,A.l⟩).toArray rfl rfl (there_newn (cs:=[.int .i64 0,.slice none 0 0,.slice none 0 0,.slice none 0 0,.int .i64 0,.slice none 0 0,.int .i64 0,.int .i64 0,.int .i64 0,.int .i64 0,.int .i64 0,.int .i64 0,.int .i64 0,.int .i64 0,.int .i64 0,.int .i64 0,.int .i64 0,.int .i64 0,.int .i64 0,.int .i64 0,.int .i64 0,.int .i64 0,.int .i64 0,.int .i64 0]) (by first | rfl | simp)) (by kernel_rfl) (by first | exact cA_one _ | simp[Value.oneCell']) ?_;(obtain⟨W2,hW2⟩:∃ W,W=(w1.alloc (.cells #[.int .i64 0,.slice none 0 0,.slice none 0 0,.slice none 0 0,.int .i64 0,.slice none 0 0,.int .i64 0,.int .i64 0,.int .i64 0,.int .i64 0,.int .i64 0,.int .i64 0,.int .i64 0,.int .i64 0,.int .i64 0,.int .i64 0,.int .i64 0,.int .i64 0,.int .i64 0,.int .i64 0,.int .i64 0,.int .i64 0,.int .i64 0,.int .i64 0] 45)).setCells w1.heap.size 0 ((cA ⟨2,A.M,nilX,A.g,A.l⟩)):=⟨_,rfl⟩);have hbx:Below w1.heap.size w1 W2:=hW2 ▸ Below.setCells (Below.al (Below.refl _ _)) (Nat.le_refl _) _ _;have HQ:Hid (Own w1.heap.size ((cA ⟨2,A.M,nilX,A.g,A.l⟩)) W2):=Lib.hid (hW2 ▸ Own.store (Own.new _ [.int .i64 0,.slice none 0 0,.slice none 0 0,.slice none 0 0,.int .i64 0,.slice none 0 0,.int .i64 0,.int .i64 0,.int .i64 0,.int .i64 0,.int .i64 0,.int .i64 0,.int .i64 0,.int .i64 0,.int .i64 0,.int .i64 0,.int .i64 0,.int .i64 0,.int .i64 0,.int .i64 0,.int .i64 0,.int .i64 0,.int .i64 0,.int .i64 0] _) rfl);change wpList _ _ _ _ _ ((w1.alloc (.cells #[.int .i64 0,.slice none 0 0,.slice none 0 0,.slice none 0 0,.int .i64 0,.slice none 0 0,.int .i64 0,.int .i64 0,.int .i64 0,.int .i64 0,.int .i64 0,.int .i64 0,.int .i64 0,.int .i64 0,.int .i64 0,.int .i64 0,.int .i64 0,.int .i64 0,.int .i64 0,.int .i64 0,.int .i64 0,.int .i64 0,.int .i64 0,.int .i64 0] 45)).setCells w1.heap.size 0 ((cA ⟨2,A.M,nilX,A.g,A.l⟩)));rw[← hW2];clear hW2)
 obtain⟨Q,eQ⟩:∃ X,X=w1.heap.size:=⟨_,rfl⟩
 rw[← eQ] at HQ ⊢
 clear eQ
 have hB2:=Below.go hB1 hbx
 have HP2:=Lib.hid (HP1.out.later hbx);have BY2:=Lib.hid (BY.out.later hbx)
 clear HP1 BY hbx hB1
 by_cases hz:z=0
 ·subst hz
  have RL:=Lib.hid (RM.out rfl)
  clear RM
  have oP:=HP2.out
  have P0:=oP.at 0 _ rfl
  have Pl:=oP.lt
  clear oP
  go_wp2_with (refine wpList_load_mid rfl 45 _ rfl Q 0 rfl ((cA ⟨2,A.M,nilX,A.g,A.l⟩)) _ HQ.out.cell Tryz.underlying45 rfl (by kernel_rfl) ?_)
  clear P0 Pl
  go_at_call 23
  refine (SB.out _ (AQ.out _ hB2)).mono ?_
  rintro e w3 ⟨rfl,hb⟩
  rw[EB.out]
  have hB3:=Below.go hB2 hb
  have HP3:=Lib.hid (HP2.out.later hb);have BY3:=Lib.hid (BY2.out.later hb)
  clear hB2 hb HP2 BY2 HQ SB AQ
  cases b with
  | false =>
   go_wp2_with (fail)
   exact bodyPost_ret (v := .tuple #[.slice none 0 0,.int .i64 5]) (by simp[results,Tryz.results21,go_sem]) rfl ⟨⟨_,rfl,none,0,rfl,Nat.le_refl _,by decide,.inl rfl⟩,hB3⟩
  | true =>
   have oP:=HP3.out
   have P0:=oP.at 0 _ rfl
   have Pl:=oP.lt
   clear oP
   go_wp2_with (fail)
   clear P0 Pl
   go_at_call 50
   refine (Cap_any 2 _ (GQ.out _ hB3)).mono ?_
   rintro e w4 ⟨rfl,hw⟩
   subst hw
   rw[show capF 2=1024 from rfl]
   have d9:decide ((1024:Int)<(len:Int))=false:=decide_eq_false (by have:=RL.out;omega)
   have NL:encL 0 len=len:=rfl
   go_wp2_with (fail)
   exact bodyPost_ret (v := .tuple #[.slice q len c,.int .i64 0]) (by simp[results,Tryz.results21,go_sem]) rfl ⟨⟨_,rfl,q,c,rfl,CC.out.1,CC.out.2,BY3.out⟩,hB3⟩
 ·have hd:(z != 0)=true:=by simpa using hz
  have HZ:Hid (chk2 z b=z):=Lib.hid (if_neg hz)
  have HL:Hid (encL z len=0):=Lib.hid (if_neg hz)
  go_wp2_with (fail)
  exact bodyPost_ret (v := .tuple #[.slice none 0 0,.int .i64 z]) (by simp[results,Tryz.results21,go_sem]) rfl ⟨⟨_,by rw[HZ.out],none,0,by rw[HZ.out,HL.out],Nat.le_of_eq (by rw[HZ.out];exact HL.out),by decide,.inl (by rw[HZ.out];exact HL.out)⟩,hB2⟩
set_option maxHeartbeats 16000000 in
theorem Encode_3 (A:Ast) (hF:FewA A) (w:World) (hA:AstAt A w) (hg:Has 0 0 CapL w):Calls Tryz.prog 21 #[(.agg (cA ⟨3,A.M,A.X,A.g,A.l⟩).toArray)] w fun e w'=>(∃ v,e = .returned (.tuple #[v,.int .i64 (chk2 (chkG A.g) (sameA ⟨3,A.M,A.X,fun _=>0,A.l⟩ (kinA 3)))])∧RowR w' v (encL (chk2 (chkG A.g) (sameA ⟨3,A.M,A.X,fun _=>0,A.l⟩ (kinA 3))) (9)) (encG A.g))∧Below w.heap.size w w':=by
 have AQ:Hid (∀ W,Below w.heap.size w W→AstAt A W):=Lib.hid (fun W hb=>hA.later hb)
 have GQ:Hid (∀ W,Below w.heap.size w W→Has 0 0 CapL W):=Lib.hid (fun W hb=>hg.later hb)
 have SB:=Lib.hid (fun W (h:AstAt A W)=>Same_any ⟨3,A.M,A.X,fun _=>0,A.l⟩ (kinA 3) W ⟨h.m,h.x⟩ (kinA_at _ _) ⟨hF.v,hF.u,hF.t,hF.x⟩)
 have RM:Hid (chkG A.g=0→9≤64):=Lib.hid (fun _=>by decide)
 obtain⟨z,ez⟩:∃ z,chkG A.g=z:=⟨_,rfl⟩
 obtain⟨b,eb⟩:∃ b,sameA ⟨3,A.M,A.X,fun _=>0,A.l⟩ (kinA 3)=b:=⟨_,rfl⟩
 have CON:=Lib.hid (encode_3 A)
 have EB:=Lib.hid eb
 rw[ez] at CON RM ⊢
 rw[eb]
 have HF:=Lib.hid hF
 skip
 have CON:=Lib.hid (show ∀ (w:World),AstAt A w→Calls Tryz.prog 49 #[(.agg (cA ⟨3,A.M,A.X,A.g,A.l⟩).toArray)] w fun e w'=>(∃ v,e = .returned (.tuple #[v,(.agg (cA ⟨3,A.M,A.X,fun _=>0,A.l⟩).toArray),.int .i64 z])∧RowR w' v (encL z (9)) (encG A.g))∧Below w.heap.size w w' from CON.out)
 skip
 clear hA hg ez eb hF
 go_enter Tryz.func21,Tryz.ntmps21
 go_upto_region 1 with fail
 obtain⟨W0,hW⟩:∃ W0,W0=(w.alloc (.cells (cA ⟨3,A.M,A.X,A.g,A.l⟩).toArray 45)):=⟨_,rfl⟩
 have hB0:Below w.heap.size w W0:=hW ▸ (Below.al (Below.refl _ _))
 have HP:Hid (Own w.heap.size ((cA ⟨3,A.M,A.X,A.g,A.l⟩)) W0):=Lib.hid (hW ▸ (show Own w.heap.size ((cA ⟨3,A.M,A.X,A.g,A.l⟩)) (w.alloc (.cells (cA ⟨3,A.M,A.X,A.g,A.l⟩).toArray 45)) from Own.newAt (by simp)))
 rw[← hW]
 clear hW
 obtain⟨P,eP⟩:∃ X,X=w.heap.size:=⟨_,rfl⟩
 rw[← eP] at HP ⊢
 have Pw:w.heap.size≤P:=by omega
 clear eP
 go_wp2_with (refine wpList_load_mid rfl 45 _ rfl P 0 rfl ((cA ⟨3,A.M,A.X,A.g,A.l⟩)) _ HP.out.cell Tryz.underlying45 rfl (by kernel_rfl) ?_)
 go_at_call 49
 refine (CON.out _ (AQ.out _ hB0)).mono ?_
 rintro e w1 ⟨⟨v,rfl,hr⟩,hb⟩
 obtain⟨q,c,rfl,hc1,hc2,hy⟩:=hr
 have BY:=Lib.hid hy;have CC:=Lib.hid (And.intro hc1 hc2)
 have HP1:=Lib.hid (HP.out.later hb)
 have hB1:=Below.go hB0 hb
 clear hy hc1 hc2 hb hB0 HP CON
 go_upto_region 2 with (refine wpList_store_mid rfl 45 _ _ rfl _ 0 (cA ⟨3,A.M,A.X,fun _=>0,A.l⟩).toArray rfl rfl (there_newn (cs:=[.int .i64 0,.slice none 0 0,.slice none 0 0,.slice none 0 0,.int .i64 0,.slice none 0 0,.int .i64 0,.int .i64 0,.int .i64 0,.int .i64 0,.int .i64 0,.int .i64 0,.int .i64 0,.int .i64 0,.int .i64 0,.int .i64 0,.int .i64 0,.int .i64 0,.int .i64 0,.int .i64 0,.int .i64 0,.int .i64 0,.int .i64 0,.int .i64 0]) (by first | rfl | simp)) (by kernel_rfl) (by first | exact cA_one _ | simp[Value.oneCell']) ?_;(obtain⟨W2,hW2⟩:∃ W,W=(w1.alloc (.cells #[.int .i64 0,.slice none 0 0,.slice none 0 0,.slice none 0 0,.int .i64 0,.slice none 0 0,.int .i64 0,.int .i64 0,.int .i64 0,.int .i64 0,.int .i64 0,.int .i64 0,.int .i64 0,.int .i64 0,.int .i64 0,.int .i64 0,.int .i64 0,.int .i64 0,.int .i64 0,.int .i64 0,.int .i64 0,.int .i64 0,.int .i64 0,.int .i64 0] 45)).setCells w1.heap.size 0 ((cA ⟨3,A.M,A.X,fun _=>0,A.l⟩)):=⟨_,rfl⟩);have hbx:Below w1.heap.size w1 W2:=hW2 ▸ Below.setCells (Below.al (Below.refl _ _)) (Nat.le_refl _) _ _;have HQ:Hid (Own w1.heap.size ((cA ⟨3,A.M,A.X,fun _=>0,A.l⟩)) W2):=Lib.hid (hW2 ▸ Own.store (Own.new _ [.int .i64 0,.slice none 0 0,.slice none 0 0,.slice none 0 0,.int .i64 0,.slice none 0 0,.int .i64 0,.int .i64 0,.int .i64 0,.int .i64 0,.int .i64 0,.int .i64 0,.int .i64 0,.int .i64 0,.int .i64 0,.int .i64 0,.int .i64 0,.int .i64 0,.int .i64 0,.int .i64 0,.int .i64 0,.int .i64 0,.int .i64 0,.int .i64 0] _) rfl);change wpList _ _ _ _ _ ((w1.alloc (.cells #[.int .i64 0,.slice none 0 0,.slice none 0 0,.slice none 0 0,.int .i64 0,.slice none 0 0,.int .i64 0,.int .i64 0,.int .i64 0,.int .i64 0,.int .i64 0,.int .i64 0,.int .i64 0,.int .i64 0,.int .i64 0,.int .i64 0,.int .i64 0,.int .i64 0,.int .i64 0,.int .i64 0,.int .i64 0,.int .i64 0,.int .i64 0,.int .i64 0] 45)).setCells w1.heap.size 0 ((cA ⟨3,A.M,A.X,fun _=>0,A.l⟩)));rw[← hW2];clear hW2)
 obtain⟨Q,eQ⟩:∃ X,X=w1.heap.size:=⟨_,rfl⟩
 rw[← eQ] at HQ ⊢
 clear eQ
 have hB2:=Below.go hB1 hbx
 have HP2:=Lib.hid (HP1.out.later hbx);have BY2:=Lib.hid (BY.out.later hbx)
 clear HP1 BY hbx hB1
 by_cases hz:z=0
 ·subst hz
  have RL:=Lib.hid (RM.out rfl)
  clear RM
  have oP:=HP2.out
  have P0:=oP.at 0 _ rfl
  have Pl:=oP.lt
  clear oP
  go_wp2_with (refine wpList_load_mid rfl 45 _ rfl Q 0 rfl ((cA ⟨3,A.M,A.X,fun _=>0,A.l⟩)) _ HQ.out.cell Tryz.underlying45 rfl (by kernel_rfl) ?_)
  clear P0 Pl
  go_at_call 23
  refine (SB.out _ (AQ.out _ hB2)).mono ?_
  rintro e w3 ⟨rfl,hb⟩
  rw[EB.out]
  have hB3:=Below.go hB2 hb
  have HP3:=Lib.hid (HP2.out.later hb);have BY3:=Lib.hid (BY2.out.later hb)
  clear hB2 hb HP2 BY2 HQ SB AQ
  cases b with
  | false =>
   go_wp2_with (fail)
   exact bodyPost_ret (v := .tuple #[.slice none 0 0,.int .i64 5]) (by simp[results,Tryz.results21,go_sem]) rfl ⟨⟨_,rfl,none,0,rfl,Nat.le_refl _,by decide,.inl rfl⟩,hB3⟩
  | true =>
   have oP:=HP3.out
   have P0:=oP.at 0 _ rfl
   have Pl:=oP.lt
   clear oP
   go_wp2_with (fail)
   clear P0 Pl
   go_at_call 50
   refine (Cap_any 3 _ (GQ.out _ hB3)).mono ?_
   rintro e w4 ⟨rfl,hw⟩
   subst hw
   rw[show capF 3=64 from rfl]
   have d9:decide ((64:Int)<(9:Int))=false:=decide_eq_false (by have:=RL.out;omega)
   have NL:encL 0 9=9:=rfl
   go_wp2_with (fail)
   exact bodyPost_ret (v := .tuple #[.slice q 9 c,.int .i64 0]) (by simp[results,Tryz.results21,go_sem]) rfl ⟨⟨_,rfl,q,c,rfl,CC.out.1,CC.out.2,BY3.out⟩,hB3⟩
 ·have hd:(z != 0)=true:=by simpa using hz
  have HZ:Hid (chk2 z b=z):=Lib.hid (if_neg hz)
  have HL:Hid (encL z 9=0):=Lib.hid (if_neg hz)
  go_wp2_with (fail)
  exact bodyPost_ret (v := .tuple #[.slice none 0 0,.int .i64 z]) (by simp[results,Tryz.results21,go_sem]) rfl ⟨⟨_,by rw[HZ.out],none,0,by rw[HZ.out,HL.out],Nat.le_of_eq (by rw[HZ.out];exact HL.out),by decide,.inl (by rw[HZ.out];exact HL.out)⟩,hB2⟩
set_option maxHeartbeats 16000000 in
theorem Encode_4 (A:Ast) (hF:FewA A) (w:World) (hA:AstAt A w) (hg:Has 0 0 CapL w):Calls Tryz.prog 21 #[(.agg (cA ⟨4,A.M,A.X,A.g,A.l⟩).toArray)] w fun e w'=>(∃ v,e = .returned (.tuple #[v,.int .i64 (chk2 (chkLg A.l) (sameA ⟨4,A.M,A.X,A.g,fun _=>0⟩ (kinA 4)))])∧RowR w' v (encL (chk2 (chkLg A.l) (sameA ⟨4,A.M,A.X,A.g,fun _=>0⟩ (kinA 4))) (31)) (encLg A.l))∧Below w.heap.size w w':=by
 have AQ:Hid (∀ W,Below w.heap.size w W→AstAt A W):=Lib.hid (fun W hb=>hA.later hb)
 have GQ:Hid (∀ W,Below w.heap.size w W→Has 0 0 CapL W):=Lib.hid (fun W hb=>hg.later hb)
 have SB:=Lib.hid (fun W (h:AstAt A W)=>Same_any ⟨4,A.M,A.X,A.g,fun _=>0⟩ (kinA 4) W ⟨h.m,h.x⟩ (kinA_at _ _) ⟨hF.v,hF.u,hF.t,hF.x⟩)
 have RM:Hid (chkLg A.l=0→31≤64):=Lib.hid (fun _=>by decide)
 obtain⟨z,ez⟩:∃ z,chkLg A.l=z:=⟨_,rfl⟩
 obtain⟨b,eb⟩:∃ b,sameA ⟨4,A.M,A.X,A.g,fun _=>0⟩ (kinA 4)=b:=⟨_,rfl⟩
 have CON:=Lib.hid (encode_4 A)
 have EB:=Lib.hid eb
 rw[ez] at CON RM ⊢
 rw[eb]
 have HF:=Lib.hid hF
 skip
 have CON:=Lib.hid (show ∀ (w:World),AstAt A w→Calls Tryz.prog 49 #[(.agg (cA ⟨4,A.M,A.X,A.g,A.l⟩).toArray)] w fun e w'=>(∃ v,e = .returned (.tuple #[v,(.agg (cA ⟨4,A.M,A.X,A.g,fun _=>0⟩).toArray),.int .i64 z])∧RowR w' v (encL z (31)) (encLg A.l))∧Below w.heap.size w w' from CON.out)
 skip
 clear hA hg ez eb hF
 go_enter Tryz.func21,Tryz.ntmps21
 go_upto_region 1 with fail
 obtain⟨W0,hW⟩:∃ W0,W0=(w.alloc (.cells (cA ⟨4,A.M,A.X,A.g,A.l⟩).toArray 45)):=⟨_,rfl⟩
 have hB0:Below w.heap.size w W0:=hW ▸ (Below.al (Below.refl _ _))
 have HP:Hid (Own w.heap.size ((cA ⟨4,A.M,A.X,A.g,A.l⟩)) W0):=Lib.hid (hW ▸ (show Own w.heap.size ((cA ⟨4,A.M,A.X,A.g,A.l⟩)) (w.alloc (.cells (cA ⟨4,A.M,A.X,A.g,A.l⟩).toArray 45)) from Own.newAt (by simp)))
 rw[← hW]
 clear hW
 obtain⟨P,eP⟩:∃ X,X=w.heap.size:=⟨_,rfl⟩
 rw[← eP] at HP ⊢
 have Pw:w.heap.size≤P:=by omega
 clear eP
 go_wp2_with (refine wpList_load_mid rfl 45 _ rfl P 0 rfl ((cA ⟨4,A.M,A.X,A.g,A.l⟩)) _ HP.out.cell Tryz.underlying45 rfl (by kernel_rfl) ?_)
 go_at_call 49
 refine (CON.out _ (AQ.out _ hB0)).mono ?_
 rintro e w1 ⟨⟨v,rfl,hr⟩,hb⟩
 obtain⟨q,c,rfl,hc1,hc2,hy⟩:=hr
 have BY:=Lib.hid hy;have CC:=Lib.hid (And.intro hc1 hc2)
 have HP1:=Lib.hid (HP.out.later hb)
 have hB1:=Below.go hB0 hb
 clear hy hc1 hc2 hb hB0 HP CON
 go_upto_region 2 with (refine wpList_store_mid rfl 45 _ _ rfl _ 0 (cA ⟨4,A.M,A.X,A.g,fun _=>0⟩).toArray rfl rfl (there_newn (cs:=[.int .i64 0,.slice none 0 0,.slice none 0 0,.slice none 0 0,.int .i64 0,.slice none 0 0,.int .i64 0,.int .i64 0,.int .i64 0,.int .i64 0,.int .i64 0,.int .i64 0,.int .i64 0,.int .i64 0,.int .i64 0,.int .i64 0,.int .i64 0,.int .i64 0,.int .i64 0,.int .i64 0,.int .i64 0,.int .i64 0,.int .i64 0,.int .i64 0]) (by first | rfl | simp)) (by kernel_rfl) (by first | exact cA_one _ | simp[Value.oneCell']) ?_;(obtain⟨W2,hW2⟩:∃ W,W=(w1.alloc (.cells #[.int .i64 0,.slice none 0 0,.slice none 0 0,.slice none 0 0,.int .i64 0,.slice none 0 0,.int .i64 0,.int .i64 0,.int .i64 0,.int .i64 0,.int .i64 0,.int .i64 0,.int .i64 0,.int .i64 0,.int .i64 0,.int .i64 0,.int .i64 0,.int .i64 0,.int .i64 0,.int .i64 0,.int .i64 0,.int .i64 0,.int .i64 0,.int .i64 0] 45)).setCells w1.heap.size 0 ((cA ⟨4,A.M,A.X,A.g,fun _=>0⟩)):=⟨_,rfl⟩);have hbx:Below w1.heap.size w1 W2:=hW2 ▸ Below.setCells (Below.al (Below.refl _ _)) (Nat.le_refl _) _ _;have HQ:Hid (Own w1.heap.size ((cA ⟨4,A.M,A.X,A.g,fun _=>0⟩)) W2):=Lib.hid (hW2 ▸ Own.store (Own.new _ [.int .i64 0,.slice none 0 0,.slice none 0 0,.slice none 0 0,.int .i64 0,.slice none 0 0,.int .i64 0,.int .i64 0,.int .i64 0,.int .i64 0,.int .i64 0,.int .i64 0,.int .i64 0,.int .i64 0,.int .i64 0,.int .i64 0,.int .i64 0,.int .i64 0,.int .i64 0,.int .i64 0,.int .i64 0,.int .i64 0,.int .i64 0,.int .i64 0] _) rfl);change wpList _ _ _ _ _ ((w1.alloc (.cells #[.int .i64 0,.slice none 0 0,.slice none 0 0,.slice none 0 0,.int .i64 0,.slice none 0 0,.int .i64 0,.int .i64 0,.int .i64 0,.int .i64 0,.int .i64 0,.int .i64 0,.int .i64 0,.int .i64 0,.int .i64 0,.int .i64 0,.int .i64 0,.int .i64 0,.int .i64 0,.int .i64 0,.int .i64 0,.int .i64 0,.int .i64 0,.int .i64 0] 45)).setCells w1.heap.size 0 ((cA ⟨4,A.M,A.X,A.g,fun _=>0⟩)));rw[← hW2];clear hW2)
 obtain⟨Q,eQ⟩:∃ X,X=w1.heap.size:=⟨_,rfl⟩
 rw[← eQ] at HQ ⊢
 clear eQ
 have hB2:=Below.go hB1 hbx
 have HP2:=Lib.hid (HP1.out.later hbx);have BY2:=Lib.hid (BY.out.later hbx)
 clear HP1 BY hbx hB1
 by_cases hz:z=0
 ·subst hz
  have RL:=Lib.hid (RM.out rfl)
  clear RM
  have oP:=HP2.out
  have P0:=oP.at 0 _ rfl
  have Pl:=oP.lt
  clear oP
  go_wp2_with (refine wpList_load_mid rfl 45 _ rfl Q 0 rfl ((cA ⟨4,A.M,A.X,A.g,fun _=>0⟩)) _ HQ.out.cell Tryz.underlying45 rfl (by kernel_rfl) ?_)
  clear P0 Pl
  go_at_call 23
  refine (SB.out _ (AQ.out _ hB2)).mono ?_
  rintro e w3 ⟨rfl,hb⟩
  rw[EB.out]
  have hB3:=Below.go hB2 hb
  have HP3:=Lib.hid (HP2.out.later hb);have BY3:=Lib.hid (BY2.out.later hb)
  clear hB2 hb HP2 BY2 HQ SB AQ
  cases b with
  | false =>
   go_wp2_with (fail)
   exact bodyPost_ret (v := .tuple #[.slice none 0 0,.int .i64 5]) (by simp[results,Tryz.results21,go_sem]) rfl ⟨⟨_,rfl,none,0,rfl,Nat.le_refl _,by decide,.inl rfl⟩,hB3⟩
  | true =>
   have oP:=HP3.out
   have P0:=oP.at 0 _ rfl
   have Pl:=oP.lt
   clear oP
   go_wp2_with (fail)
   clear P0 Pl
   go_at_call 50
   refine (Cap_any 4 _ (GQ.out _ hB3)).mono ?_
   rintro e w4 ⟨rfl,hw⟩
   subst hw
   rw[show capF 4=64 from rfl]
   have d9:decide ((64:Int)<(31:Int))=false:=decide_eq_false (by have:=RL.out;omega)
   have NL:encL 0 31=31:=rfl
   go_wp2_with (fail)
   exact bodyPost_ret (v := .tuple #[.slice q 31 c,.int .i64 0]) (by simp[results,Tryz.results21,go_sem]) rfl ⟨⟨_,rfl,q,c,rfl,CC.out.1,CC.out.2,BY3.out⟩,hB3⟩
 ·have hd:(z != 0)=true:=by simpa using hz
  have HZ:Hid (chk2 z b=z):=Lib.hid (if_neg hz)
  have HL:Hid (encL z 31=0):=Lib.hid (if_neg hz)
  go_wp2_with (fail)
  exact bodyPost_ret (v := .tuple #[.slice none 0 0,.int .i64 z]) (by simp[results,Tryz.results21,go_sem]) rfl ⟨⟨_,by rw[HZ.out],none,0,by rw[HZ.out,HL.out],Nat.le_of_eq (by rw[HZ.out];exact HL.out),by decide,.inl (by rw[HZ.out];exact HL.out)⟩,hB2⟩
end Go.Proofs.YtbilamnnneddmaaGreatDoor
namespace Go.Proofs.YtbilamnnneddmaaGreatDoor
set_option linter.unusedVariables false
set_option maxRecDepth 2000
set_option linter.unusedSimpArgs false
open Go.RowKit
set_option maxHeartbeats 16000000 in
theorem encode_0 (A:Ast) (hk:A.k≠1∧A.k≠2∧A.k≠3∧A.k≠4) (w:World):Calls Tryz.prog 49 #[(.agg (cA A).toArray)] w fun e w'=>e = .returned (.tuple #[.slice none 0 0,(.agg (cA A).toArray),.int .i64 12])∧Below w.heap.size w w':=by
 have d1:(A.k == 1)=false:=by simpa using hk.1
 have d2:(A.k == 2)=false:=by simpa using hk.2.1
 have d3:(A.k == 3)=false:=by simpa using hk.2.2.1
 have d4:(A.k == 4)=false:=by simpa using hk.2.2.2
 clear hk
 go_enter Tryz.func49,Tryz.ntmps49
 go_upto_region 1 with fail
 obtain⟨W0,hW⟩:∃ W0,W0=((w.alloc (.cells (cA A).toArray 45)).alloc (.cells #[.int .i64 0,.slice none 0 0,.slice none 0 0,.slice none 0 0,.int .i64 0,.slice none 0 0,.int .i64 0,.int .i64 0,.int .i64 0,.int .i64 0,.int .i64 0,.int .i64 0,.int .i64 0,.int .i64 0,.int .i64 0,.int .i64 0,.int .i64 0,.int .i64 0,.int .i64 0,.int .i64 0,.int .i64 0,.int .i64 0,.int .i64 0,.int .i64 0] 45)):=⟨_,rfl⟩
 have hB0:Below w.heap.size w W0:=hW ▸ (Below.al (Below.al (Below.refl _ _)))
 have HP:Hid (Own w.heap.size ((cA A)) W0):=Lib.hid (hW ▸ (show Own w.heap.size ((cA A)) (w.alloc (.cells (cA A).toArray 45)) from Own.newAt (by simp)).alloc)
 have HQ:Hid (Own (w.heap.size+1) ([.int .i64 0,.slice none 0 0,.slice none 0 0,.slice none 0 0,.int .i64 0,.slice none 0 0,.int .i64 0,.int .i64 0,.int .i64 0,.int .i64 0,.int .i64 0,.int .i64 0,.int .i64 0,.int .i64 0,.int .i64 0,.int .i64 0,.int .i64 0,.int .i64 0,.int .i64 0,.int .i64 0,.int .i64 0,.int .i64 0,.int .i64 0,.int .i64 0]) W0):=Lib.hid (hW ▸ (show Own (w.heap.size+1) ([.int .i64 0,.slice none 0 0,.slice none 0 0,.slice none 0 0,.int .i64 0,.slice none 0 0,.int .i64 0,.int .i64 0,.int .i64 0,.int .i64 0,.int .i64 0,.int .i64 0,.int .i64 0,.int .i64 0,.int .i64 0,.int .i64 0,.int .i64 0,.int .i64 0,.int .i64 0,.int .i64 0,.int .i64 0,.int .i64 0,.int .i64 0,.int .i64 0]) ((w.alloc (.cells (cA A).toArray 45)).alloc (.cells #[.int .i64 0,.slice none 0 0,.slice none 0 0,.slice none 0 0,.int .i64 0,.slice none 0 0,.int .i64 0,.int .i64 0,.int .i64 0,.int .i64 0,.int .i64 0,.int .i64 0,.int .i64 0,.int .i64 0,.int .i64 0,.int .i64 0,.int .i64 0,.int .i64 0,.int .i64 0,.int .i64 0,.int .i64 0,.int .i64 0,.int .i64 0,.int .i64 0] 45)) from Own.newAt (by simp)))
 rw[← hW]
 clear hW
 obtain⟨Q,eQ⟩:∃ X,X=(w.heap.size+1):=⟨_,rfl⟩
 rw[← eQ] at HQ ⊢
 have Qw:w.heap.size≤Q:=by omega
 obtain⟨P,eP⟩:∃ X,X=w.heap.size:=⟨_,rfl⟩
 rw[← eP] at HP ⊢
 have Pw:w.heap.size≤P:=by omega
 have nPQ:P≠Q:=by omega
 have nQP:Q≠P:=by omega
 clear eP eQ
 refine wp_region_lit ?_
 refine wpList_load_mid rfl 45 _ rfl P 0 rfl ((cA A)) _ HP.out.cell Tryz.underlying45 rfl (by kernel_rfl) ?_
 refine wpList_store_mid rfl 45 _ _ rfl Q 0 ((cA A)).toArray rfl rfl HQ.out.free (by kernel_rfl) (by first | exact cA_one _ | simp[Value.oneCell']) ?_
 change wpList _ _ _ [] _ (W0.setCells Q 0 ((cA A)))
 have HQn:Hid (Own Q ((cA A)) (W0.setCells Q 0 ((cA A)))):=Lib.hid (Own.store HQ.out rfl)
 have HPn:Hid (Own P ((cA A)) (W0.setCells Q 0 ((cA A)))):=Lib.hid (Own.far (o:=0) (vs:=((cA A))) HP.out nPQ)
 have hB0n:Below w.heap.size w (W0.setCells Q 0 ((cA A))):=Below.setCells hB0 Qw ((cA A)) 0
 clear HQ HP hB0
 generalize (W0.setCells Q 0 ((cA A)))=w3 at *
 have HQ:=HQn
 clear HQn
 have HP:=HPn
 clear HPn
 have hB0:=hB0n
 clear hB0n
 have oP:=HP.out
 have P0:=oP.at 0 _ rfl
 have Pl:=oP.lt
 clear oP
 go_upto_region 16 with fail
 clear P0 Pl
 have HQn:=HQ;have hB2:=hB0
 clear HQ hB0 HP
 have SQ:Hid (Own Q ((cA A)) w3.drew):=Lib.hid HQn.out.drew
 refine wp_region_held_drew (S:=fun w'=>w'=w3.drew) (by kernel_rfl) rfl (fun _=>?_)
 refine wpAnyH_take (i:=0) (v := .slice none 0 0) rfl (by kernel_rfl) (by kernel_rfl) (by kernel_rfl) (fun _ _ _ h=>h) (Or.inl ⟨by rfl,fun w' hS=>?_⟩) rfl ?_
 ·subst hS
  go_simp
 try simp only[Act.put,List.getElem_toArray,List.getElem_cons_zero,List.getElem_cons_succ,List.setIfInBounds_toArray,List.set_cons_zero,List.set_cons_succ]
 refine wpAnyH_take (i:=1) (v := .agg ((cA A)).toArray) rfl (by kernel_rfl) (by kernel_rfl) (by kernel_rfl) (fun _ _ _ h=>h) (yieldsIf_load_mid (by rfl) 45 _ rfl Q 0 rfl ((cA A)) _ (fun w h=>by rw[h];exact SQ.out.cell) Tryz.underlying45 rfl (by kernel_rfl)) rfl ?_
 try simp only[Act.put,List.getElem_toArray,List.getElem_cons_zero,List.getElem_cons_succ,List.setIfInBounds_toArray,List.set_cons_zero,List.set_cons_succ]
 refine wpAnyH_take (i:=2) (v := .int .i64 12) rfl (by kernel_rfl) (by kernel_rfl) (by kernel_rfl) (fun _ _ _ h=>h) (Or.inl ⟨by rfl,fun w' hS=>?_⟩) rfl ?_
 ·subst hS
  go_simp
 try simp only[Act.put,List.getElem_toArray,List.getElem_cons_zero,List.getElem_cons_succ,List.setIfInBounds_toArray,List.set_cons_zero,List.set_cons_succ]
 refine wpAnyH_take (i:=3) (v := .slice none 0 0) rfl (by kernel_rfl) (by kernel_rfl) (by kernel_rfl) (fun _ _ _ h=>h) (Or.inl ⟨by rfl,fun w' hS=>?_⟩) rfl ?_
 ·subst hS
  go_simp
 try simp only[Act.put,List.getElem_toArray,List.getElem_cons_zero,List.getElem_cons_succ,List.setIfInBounds_toArray,List.set_cons_zero,List.set_cons_succ]
 refine wpAnyH_ready (rs:=[4]) (by kernel_rfl) (by simp) ?_
 refine AllReadyH.cons rfl (fun K hK=>?_) AllReadyH.nil
 refine step_store_self (by simp[Region.wanted]) 45 _ _ rfl Q (cA A).toArray rfl rfl SQ.out (by kernel_rfl) (by first | exact cA_one _ | simp[Value.oneCell']) ?_
 refine hK.out _ _ rfl (fun _=>?_)
 clear hK K
 try simp only[Act.put,List.getElem_toArray,List.getElem_cons_zero,List.getElem_cons_succ,List.setIfInBounds_toArray,List.set_cons_zero,List.set_cons_succ]
 refine wpAnyH_take (i:=5) (v := .int .i64 12) rfl (by kernel_rfl) (by kernel_rfl) (by kernel_rfl) (fun _ _ _ h=>h) (Or.inl ⟨by rfl,fun w' hS=>?_⟩) rfl ?_
 ·subst hS
  go_simp
 try simp only[Act.put,List.getElem_toArray,List.getElem_cons_zero,List.getElem_cons_succ,List.setIfInBounds_toArray,List.set_cons_zero,List.set_cons_succ]
 refine wpAnyH_done (by kernel_rfl) ?_ _
 clear SQ
 have HQd:=Lib.hid (HQn.out.drew);have hB3:=hB2.drew
 clear HQn hB2
 generalize w3.drew=w4 at *
 go_wp2_with (fail)
 have hL:=run_loadVar_mid (P:=Tryz.prog) _ Q 0 45 ((cA A)) _ HQd.out.cell Tryz.underlying45 rfl (by kernel_rfl)
 exact bodyPost_ret (v := .tuple #[.slice none 0 0,.agg ((cA A)).toArray,.int .i64 12]) (res_tct Tryz.results49 rfl rfl hL rfl) rfl ⟨rfl,hB3⟩
set_option maxHeartbeats 16000000 in
theorem Encode_0 (A:Ast) (hk:A.k≠1∧A.k≠2∧A.k≠3∧A.k≠4) (w:World):Calls Tryz.prog 21 #[(.agg (cA A).toArray)] w fun e w'=>e = .returned (.tuple #[.slice none 0 0,.int .i64 12])∧Below w.heap.size w w':=by
 have CON:=Lib.hid (encode_0 A hk)
 clear hk
 go_enter Tryz.func21,Tryz.ntmps21
 go_upto_region 1 with fail
 obtain⟨W0,hW⟩:∃ W0,W0=(w.alloc (.cells (cA A).toArray 45)):=⟨_,rfl⟩
 have hB0:Below w.heap.size w W0:=hW ▸ (Below.al (Below.refl _ _))
 have HP:Hid (Own w.heap.size ((cA A)) W0):=Lib.hid (hW ▸ (show Own w.heap.size ((cA A)) (w.alloc (.cells (cA A).toArray 45)) from Own.newAt (by simp)))
 rw[← hW]
 clear hW
 obtain⟨P,eP⟩:∃ X,X=w.heap.size:=⟨_,rfl⟩
 rw[← eP] at HP ⊢
 have Pw:w.heap.size≤P:=by omega
 clear eP
 go_wp2_with (refine wpList_load_mid rfl 45 _ rfl P 0 rfl ((cA A)) _ HP.out.cell Tryz.underlying45 rfl (by kernel_rfl) ?_)
 go_at_call 49
 refine (CON.out _).mono ?_
 rintro e w1 ⟨rfl,hb⟩
 have hB1:=Below.go hB0 hb
 clear hb hB0 HP CON
 go_upto_region 2 with (refine wpList_store_mid rfl 45 _ _ rfl _ 0 (cA A).toArray rfl rfl (there_newn (cs:=[.int .i64 0,.slice none 0 0,.slice none 0 0,.slice none 0 0,.int .i64 0,.slice none 0 0,.int .i64 0,.int .i64 0,.int .i64 0,.int .i64 0,.int .i64 0,.int .i64 0,.int .i64 0,.int .i64 0,.int .i64 0,.int .i64 0,.int .i64 0,.int .i64 0,.int .i64 0,.int .i64 0,.int .i64 0,.int .i64 0,.int .i64 0,.int .i64 0]) (by first | rfl | simp)) (by kernel_rfl) (by first | exact cA_one _ | simp[Value.oneCell']) ?_;(obtain⟨W2,hW2⟩:∃ W,W=(w1.alloc (.cells #[.int .i64 0,.slice none 0 0,.slice none 0 0,.slice none 0 0,.int .i64 0,.slice none 0 0,.int .i64 0,.int .i64 0,.int .i64 0,.int .i64 0,.int .i64 0,.int .i64 0,.int .i64 0,.int .i64 0,.int .i64 0,.int .i64 0,.int .i64 0,.int .i64 0,.int .i64 0,.int .i64 0,.int .i64 0,.int .i64 0,.int .i64 0,.int .i64 0] 45)).setCells w1.heap.size 0 ((cA A)):=⟨_,rfl⟩);have hbx:Below w1.heap.size w1 W2:=hW2 ▸ Below.setCells (Below.al (Below.refl _ _)) (Nat.le_refl _) _ _;change wpList _ _ _ _ _ ((w1.alloc (.cells #[.int .i64 0,.slice none 0 0,.slice none 0 0,.slice none 0 0,.int .i64 0,.slice none 0 0,.int .i64 0,.int .i64 0,.int .i64 0,.int .i64 0,.int .i64 0,.int .i64 0,.int .i64 0,.int .i64 0,.int .i64 0,.int .i64 0,.int .i64 0,.int .i64 0,.int .i64 0,.int .i64 0,.int .i64 0,.int .i64 0,.int .i64 0,.int .i64 0] 45)).setCells w1.heap.size 0 ((cA A)));rw[← hW2];clear hW2)
 have hB2:=Below.go hB1 hbx
 clear hB1 hbx
 go_wp2_with (fail)
 exact bodyPost_ret (v := .tuple #[.slice none 0 0,.int .i64 12]) (by simp[results,Tryz.results21,go_sem]) rfl ⟨rfl,hB2⟩
def chkA (A:Ast):Int:=if A.k=1 then chk2 (chkM A.M) (sameA ⟨1,nilM,A.X,A.g,A.l⟩ (kinA 1)) else if A.k=2 then chk2 (chkT A.X.S A.X.n A.X.f) (sameA ⟨2,A.M,nilX,A.g,A.l⟩ (kinA 2)) else if A.k=3 then chk2 (chkG A.g) (sameA ⟨3,A.M,A.X,fun _=>0,A.l⟩ (kinA 3)) else if A.k=4 then chk2 (chkLg A.l) (sameA ⟨4,A.M,A.X,A.g,fun _=>0⟩ (kinA 4)) else 12
def lenA (A:Ast):Nat:=if A.k=1 then encN A.M.nv A.M.nu A.M.nt else if A.k=2 then 1+A.X.n*3 else if A.k=3 then 9 else 31
def encA (A:Ast):Nat→Int:=if A.k=1 then encF A.M.nv A.M.nu A.M.nt A.M.V A.M.U A.M.R else if A.k=2 then encT A.X.S A.X.f else if A.k=3 then encG A.g else encLg A.l
theorem AEncode_any (A:Ast) (hF:FewA A) (w:World) (hA:AstAt A w) (hg:Has 0 0 CapL w):Calls Tryz.prog 21 #[(.agg (cA A).toArray)] w fun e w'=>(∃ v,e = .returned (.tuple #[v,.int .i64 (chkA A)])∧RowR w' v (encL (chkA A) (lenA A)) (encA A))∧Below w.heap.size w w':=by
 obtain⟨k,M,X,g,l⟩:=A
 by_cases k1:k=1
 ·subst k1
  exact Encode_1 ⟨1,M,X,g,l⟩ hF w hA hg
 ·by_cases k2:k=2
  ·subst k2
   exact Encode_2 ⟨2,M,X,g,l⟩ hF w hA hg
  ·by_cases k3:k=3
   ·subst k3
    exact Encode_3 ⟨3,M,X,g,l⟩ hF w hA hg
   ·by_cases k4:k=4
    ·subst k4
     exact Encode_4 ⟨4,M,X,g,l⟩ hF w hA hg
    ·refine (Encode_0 ⟨k,M,X,g,l⟩ ⟨k1,k2,k3,k4⟩ w).mono ?_
     rintro e w' ⟨rfl,hb⟩
     have e12:chkA ⟨k,M,X,g,l⟩=12:=by unfold chkA;rw[if_neg k1,if_neg k2,if_neg k3,if_neg k4]
     rw[e12]
     exact⟨⟨_,rfl,none,0,rfl,Nat.le_refl _,by decide,.inl rfl⟩,hb⟩
set_option maxHeartbeats 4000000 in
theorem ACheck_any (A:Ast) (hF:FewA A) (w:World) (hA:AstAt A w) (hg:Has 0 0 CapL w):Calls Tryz.prog 79 #[(.agg (cA A).toArray)] w fun e w'=>e = .returned (.int .i64 (chkA A))∧Below w.heap.size w w':=by
 have CON:=Lib.hid (fun w hA hg=>AEncode_any A hF w hA hg)
 have AA:=Lib.hid hA;have GG:=Lib.hid hg
 generalize chkA A=z at *
 clear hF hA hg
 go_enter Tryz.func79,Tryz.ntmps79
 go_upto_region 1 with fail
 obtain⟨W0,hW⟩:∃ W0,W0=(w.alloc (.cells (cA A).toArray 45)):=⟨_,rfl⟩
 have hB0:Below w.heap.size w W0:=hW ▸ (Below.al (Below.refl _ _))
 have HP:Hid (Own w.heap.size ((cA A)) W0):=Lib.hid (hW ▸ (show Own w.heap.size ((cA A)) (w.alloc (.cells (cA A).toArray 45)) from Own.newAt (by simp)))
 rw[← hW]
 clear hW
 obtain⟨P,eP⟩:∃ X,X=w.heap.size:=⟨_,rfl⟩
 rw[← eP] at HP ⊢
 have Pw:w.heap.size≤P:=by omega
 clear eP
 go_wp2_with (refine wpList_load_mid rfl 45 _ rfl P 0 rfl ((cA A)) _ HP.out.cell Tryz.underlying45 rfl (by kernel_rfl) ?_)
 go_at_call 21
 refine (CON.out _ (AA.out.later hB0) (GG.out.later hB0)).mono ?_
 rintro e w1 ⟨⟨v,rfl,-⟩,hb⟩
 have hB1:=Below.go hB0 hb
 clear hb hB0 HP CON AA GG
 go_wp2_with (fail)
 go_ret
 exact⟨rfl,hB1⟩
end Go.Proofs.YtbilamnnneddmaaGreatDoor
namespace Go.Proofs.YtbilamnnneddmaaGreatDoor
set_option linter.unusedVariables false
set_option maxRecDepth 2000
set_option linter.unusedSimpArgs false
open Go.RowKit
theorem encG_lo (g:Nat→Int) (r:Nat) (hr:r<4) (i:Nat) (hi:i<2):encG g (1+2*r+i)=dg (g (1+r)) i:=by
 by_cases h:r<3
 ·unfold encG
  rw[outF_head _ _ _ _ (by omega)]
  unfold encG2
  rw[outF_dg _ _ _ _ r i hi]
 ·obtain rfl:r=3:=by omega
  unfold encG
  rw[show 1+2*3+i=7+2*0+i by omega,outF_dg _ _ _ _ 0 i hi]
theorem chk2_zero {z:Int} {b:Bool} (h:chk2 z b=0):z=0∧b=true:=by
 unfold chk2 at h
 by_cases e:z=0
 ·rw[if_pos e] at h
  cases b with
  | true=>exact⟨e,rfl⟩
  | false=>cases h
 ·rw[if_neg e] at h
  exact absurd h e
end Go.Proofs.YtbilamnnneddmaaGreatDoor
namespace Go.Proofs.YtbilamnnneddmaaGreatDoor
set_option linter.unusedVariables false
set_option maxRecDepth 2000
set_option linter.unusedSimpArgs false
open Go.RowKit
theorem valN_of {F:Nat→Int} {N t W:Nat} {z:Int} (h:∀ i,i<W→F (t+i)=dg z i) (h0:0≤z) (hz:z<pw W) (hT:t+W≤N):valN F N t W=z:=by
 unfold valN
 rw[if_pos hT,leN_congr (g:=dg z) h,leN_dg,Int.emod_eq_of_lt h0 hz]
theorem sgnN_of {F:Nat→Int} {N t:Nat} {z:Int} (h:∀ i,i<2→F (t+i)=dg z i) (hz : -4096≤z∧z≤4096) (hT:t+2≤N):sgnN F N t=z:=by
 unfold sgnN valN
 rw[if_pos hT,leN_congr (g:=dg z) h,leN_dg]
 exact sgn_back z 2 (by decide) (fit_s hz)
theorem pw_1:pw 1=256:=pw_vals.1
theorem pw_2:pw 2=65536:=pw_vals.2.1
theorem enc_dec {nv nu nt:Nat} {V U R:Nat→Int} (g:GoodM nv nu nt V U R):(dcN (encF nv nu nt V U R) (encN nv nu nt) 0=nv∧dcN (encF nv nu nt V U R) (encN nv nu nt) 1=nt)∧(∀ j,j<nv*3→decV (encF nv nu nt V U R) (encN nv nu nt) j=V j)∧(∀ j,j<nu*2→decU (encF nv nu nt V U R) (encN nv nu nt) j=U j)∧(∀ j,j<nt*3→decR (encF nv nu nt V U R) (encN nv nu nt) j=R j):=by
 obtain⟨hn,ht,hu,gv,gu,gt⟩:=g
 have EN:encN nv nu nt=2+nv*6+nu*4+nt*3:=by unfold encN;omega
 have F0:=encF_0 nv nu nt V U R
 have FV:=encF_v nv nu nt V U R;have FU:=encF_u nv nu nt V U R;have FT:=encF_t nv nu nt V U R
 generalize encF nv nu nt V U R=F at *
 generalize encN nv nu nt=N at *
 have v0:valN F N 0 1=(nv:Int):=valN_of (fun i hi=>by
  obtain rfl:i=0:=by omega
  exact F0 0 (by decide)) (by omega) (by rw[pw_1];omega) (by omega)
 have v1:valN F N 1 1=(nt:Int):=valN_of (fun i hi=>by
  obtain rfl:i=0:=by omega
  exact F0 1 (by decide)) (by omega) (by rw[pw_1];omega) (by omega)
 have d0:dcN F N 0=nv:=by unfold dcN;rw[v0];rfl
 have d1:dcN F N 1=nt:=by unfold dcN;rw[v1];rfl
 refine⟨⟨d0,d1⟩,fun j hj=>?_,fun j hj=>?_,fun j hj=>?_⟩
 ·unfold decV
  exact sgnN_of (fun i hi=>FV j i hj hi) (gv j hj) (by omega)
 ·unfold decU
  rw[d0]
  exact valN_of (fun i hi=>by rw[← FU j i hj hi];congr 1;omega) (gu j hj).1 (by rw[pw_2];have:=gu j hj;omega) (by omega)
 ·unfold decR
  rw[d0]
  exact valN_of (fun i hi=>by
   obtain rfl:i=0:=by omega
   rw[← FT j];congr 1;omega) (gt j hj).1 (by rw[pw_1];have:=gt j hj;omega) (by omega)
theorem enc_good {nv nu nt:Nat} {V U R:Nat→Int} (h:chkF nv nu nt V U R=0):decE (encF nv nu nt V U R) (encN nv nu nt)=0:=by
 have g:=chk_good h
 obtain⟨⟨d0,d1⟩,dv,du,dr⟩:=enc_dec g
 have hu:=g.hu
 have EN:encN nv nu nt=2+nv*6+nu*4+nt*3:=by unfold encN;omega
 have T:decT (encF nv nu nt V U R) (encN nv nu nt)=encN nv nu nt:=by
  unfold decT
  rw[d0,d1,EN]
  omega
 unfold decE
 rw[T,if_neg (Nat.lt_irrefl _),if_neg (Nat.lt_irrefl _),d0,d1]
 subst hu
 rw[chk_congr dv du dr]
 exact h
theorem enc_in {nv nu nt:Nat} {V U R:Nat→Int} (j:Nat):inB (encF nv nu nt V U R j):=by
 have b0:∀ j,inB (enc1 nv nt j):=fun j=>in_outF _ _ _ _ j (fun i hi=>absurd hi (Nat.not_lt_zero i))
 have b1:∀ j,inB (enc2 nv nt V j):=fun j=>in_outF _ _ _ _ j (fun i _=>b0 i)
 have b2:∀ j,inB (enc3 nv nu nt V U j):=fun j=>in_outF _ _ _ _ j (fun i _=>b1 i)
 exact in_outF _ _ _ _ j (fun i _=>b2 i)
end Go.Proofs.YtbilamnnneddmaaGreatDoor
namespace Go.Proofs.YtbilamnnneddmaaGreatDoor
set_option linter.unusedVariables false
set_option maxRecDepth 2000
set_option linter.unusedSimpArgs false
open Go.RowKit
def fewA (A:Ast):Ast:=⟨A.k,⟨A.M.qv,min A.M.nv 70,A.M.cv,A.M.V,A.M.qu,min A.M.nu 70,A.M.cu,A.M.U,A.M.qt,min A.M.nt 70,A.M.ct,A.M.R⟩,⟨A.X.S,A.X.q,min A.X.n 260,A.X.c,A.X.f⟩,A.g,A.l⟩
theorem fewA_few (A:Ast):FewA (fewA A):=⟨Nat.le_trans (Nat.min_le_right _ _) (by decide),Nat.le_trans (Nat.min_le_right _ _) (by decide),Nat.le_trans (Nat.min_le_right _ _) (by decide),Nat.le_trans (Nat.min_le_right _ _) (by decide)⟩
theorem fewA_at {A:Ast} {w:World} (h:AstAt A w):AstAt (fewA A) w :=
 ⟨⟨h.m.v.take (Nat.min_le_left _ _),h.m.u.take (Nat.min_le_left _ _),h.m.t.take (Nat.min_le_left _ _),Nat.le_trans (Nat.min_le_left _ _) h.m.lv,Nat.le_trans (Nat.min_le_left _ _) h.m.lu,Nat.le_trans (Nat.min_le_left _ _) h.m.lt,h.m.mv,h.m.mu,h.m.mt⟩,⟨h.x.t.take (Nat.min_le_left _ _),Nat.le_trans (Nat.min_le_left _ _) h.x.l,h.x.m⟩⟩
set_option maxHeartbeats 8000000 in
theorem fewc_any (A:Ast) (a b c d:Nat) (ea:min (A.M.nv:Int) 70=(a:Int)) (eb:min (A.M.nu:Int) 70=(b:Int)) (ec:min (A.M.nt:Int) 70=(c:Int)) (ed:min (A.X.n:Int) 260=(d:Int)) (w:World) (hA:AstAt A w) :
  Calls Tryz.prog 9 #[(.agg (cA A).toArray)] w fun e w'=>e = .returned (.agg #[.int .i64 A.k,.slice A.M.qv a A.M.cv,.slice A.M.qu b A.M.cu,.slice A.M.qt c A.M.ct,.int .i64 A.X.S,.slice A.X.q d A.X.c,.int .i64 (A.g 0),.int .i64 (A.g 1),.int .i64 (A.g 2),.int .i64 (A.g 3),.int .i64 (A.g 4),.int .i64 (A.l 0),.int .i64 (A.l 1),.int .i64 (A.l 2),.int .i64 (A.l 3),.int .i64 (A.l 4),.int .i64 (A.l 5),.int .i64 (A.l 6),.int .i64 (A.l 7),.int .i64 (A.l 8),.int .i64 (A.l 9),.int .i64 (A.l 10),.int .i64 (A.l 11),.int .i64 (A.l 12)])∧Below w.heap.size w w':=by
 have CF:=Lib.hid (Few_any A.M.qv A.M.qu A.M.qt A.M.nv A.M.cv A.M.nu A.M.cu A.M.nt A.M.ct a b c ea eb ec hA.m.lv hA.m.lu hA.m.lt hA.m.mv hA.m.mu hA.m.mt)
 have d0:(0:Int)≤(d:Int):=by omega
 have d1:(d:Int)≤(A.X.c:Int):=by have:=hA.x.l;omega
 have d2:(A.X.n:Int)≤(A.X.c:Int):=by have:=hA.x.l;omega
 clear hA ea eb ec
 go_enter Tryz.func9,Tryz.ntmps9
 go_upto_region 1 with fail
 obtain⟨W0,hW⟩:∃ W0,W0=((w.alloc (.cells (cA A).toArray 45)).alloc (.cells #[.int .i64 0,.slice none 0 0,.slice none 0 0,.slice none 0 0,.int .i64 0,.slice none 0 0,.int .i64 0,.int .i64 0,.int .i64 0,.int .i64 0,.int .i64 0,.int .i64 0,.int .i64 0,.int .i64 0,.int .i64 0,.int .i64 0,.int .i64 0,.int .i64 0,.int .i64 0,.int .i64 0,.int .i64 0,.int .i64 0,.int .i64 0,.int .i64 0] 45)):=⟨_,rfl⟩
 have hB0:Below w.heap.size w W0:=hW ▸ (Below.al (Below.al (Below.refl _ _)))
 have HP:Hid (Own w.heap.size ((cA A)) W0):=Lib.hid (hW ▸ (show Own w.heap.size ((cA A)) (w.alloc (.cells (cA A).toArray 45)) from Own.newAt (by simp)).alloc)
 have HR:Hid (Own (w.heap.size+1) ([.int .i64 0,.slice none 0 0,.slice none 0 0,.slice none 0 0,.int .i64 0,.slice none 0 0,.int .i64 0,.int .i64 0,.int .i64 0,.int .i64 0,.int .i64 0,.int .i64 0,.int .i64 0,.int .i64 0,.int .i64 0,.int .i64 0,.int .i64 0,.int .i64 0,.int .i64 0,.int .i64 0,.int .i64 0,.int .i64 0,.int .i64 0,.int .i64 0]) W0):=Lib.hid (hW ▸ (show Own (w.heap.size+1) ([.int .i64 0,.slice none 0 0,.slice none 0 0,.slice none 0 0,.int .i64 0,.slice none 0 0,.int .i64 0,.int .i64 0,.int .i64 0,.int .i64 0,.int .i64 0,.int .i64 0,.int .i64 0,.int .i64 0,.int .i64 0,.int .i64 0,.int .i64 0,.int .i64 0,.int .i64 0,.int .i64 0,.int .i64 0,.int .i64 0,.int .i64 0,.int .i64 0]) ((w.alloc (.cells (cA A).toArray 45)).alloc (.cells #[.int .i64 0,.slice none 0 0,.slice none 0 0,.slice none 0 0,.int .i64 0,.slice none 0 0,.int .i64 0,.int .i64 0,.int .i64 0,.int .i64 0,.int .i64 0,.int .i64 0,.int .i64 0,.int .i64 0,.int .i64 0,.int .i64 0,.int .i64 0,.int .i64 0,.int .i64 0,.int .i64 0,.int .i64 0,.int .i64 0,.int .i64 0,.int .i64 0] 45)) from Own.newAt (by simp)))
 rw[← hW]
 clear hW
 obtain⟨R,eR⟩:∃ X,X=(w.heap.size+1):=⟨_,rfl⟩
 rw[← eR] at HR ⊢
 have Rw:w.heap.size≤R:=by omega
 obtain⟨P,eP⟩:∃ X,X=w.heap.size:=⟨_,rfl⟩
 rw[← eP] at HP ⊢
 have Pw:w.heap.size≤P:=by omega
 have nPR:P≠R:=by omega
 have nRP:R≠P:=by omega
 clear eP eR
 have oP:=HP.out
 have P1:=oP.at 1 _ rfl
 have P2:=oP.at 2 _ rfl
 have P3:=oP.at 3 _ rfl
 have Pl:=oP.lt
 clear oP
 go_wp2_with (fail)
 clear P1 P2 P3 Pl
 go_at_call 25
 refine (CF.out _).mono ?_
 rintro e w1 ⟨rfl,hb⟩
 have HP1:=Lib.hid (HP.out.later hb);have HR1:=Lib.hid (HR.out.later hb);have hB1:=Below.go hB0 hb
 clear CF HP HR hB0 hb
 have oP:=HP1.out
 have P1:=oP.at 1 _ rfl
 have Pf1:=oP.ok 1 (Nat.le_of_ble_eq_true rfl)
 have P2:=oP.at 2 _ rfl
 have Pf2:=oP.ok 2 (Nat.le_of_ble_eq_true rfl)
 have P3:=oP.at 3 _ rfl
 have Pf3:=oP.ok 3 (Nat.le_of_ble_eq_true rfl)
 have Pl:=oP.lt
 clear oP
 go_upto_region 2 with fail
 clear P1 P2 P3 Pf1 Pf2 Pf3 Pl
 rw[show (((w1.setCell ⟨P,1,none⟩ (.slice A.M.qv a A.M.cv)).setCell ⟨P,2,none⟩ (.slice A.M.qu b A.M.cu)).setCell ⟨P,3,none⟩ (.slice A.M.qt c A.M.ct))=w1.setCells P 1 [.slice A.M.qv a A.M.cv,.slice A.M.qu b A.M.cu,.slice A.M.qt c A.M.ct] from rfl]
 have HPn:Hid (Own P ([.int .i64 A.k,.slice A.M.qv a A.M.cv,.slice A.M.qu b A.M.cu,.slice A.M.qt c A.M.ct,.int .i64 A.X.S,.slice A.X.q A.X.n A.X.c,.int .i64 (A.g 0),.int .i64 (A.g 1),.int .i64 (A.g 2),.int .i64 (A.g 3),.int .i64 (A.g 4),.int .i64 (A.l 0),.int .i64 (A.l 1),.int .i64 (A.l 2),.int .i64 (A.l 3),.int .i64 (A.l 4),.int .i64 (A.l 5),.int .i64 (A.l 6),.int .i64 (A.l 7),.int .i64 (A.l 8),.int .i64 (A.l 9),.int .i64 (A.l 10),.int .i64 (A.l 11),.int .i64 (A.l 12)]) (w1.setCells P 1 [.slice A.M.qv a A.M.cv,.slice A.M.qu b A.M.cu,.slice A.M.qt c A.M.ct])):=Lib.hid (show Own P (over _ 1 [.slice A.M.qv a A.M.cv,.slice A.M.qu b A.M.cu,.slice A.M.qt c A.M.ct]) _ from Own.part HP1.out (Nat.le_of_ble_eq_true rfl))
 have HRn:=Lib.hid (Own.far (o:=1) (vs:=[.slice A.M.qv a A.M.cv,.slice A.M.qu b A.M.cu,.slice A.M.qt c A.M.ct]) HR1.out nRP)
 have hB2:Below w.heap.size w (w1.setCells P 1 [.slice A.M.qv a A.M.cv,.slice A.M.qu b A.M.cu,.slice A.M.qt c A.M.ct]):=Below.setCells hB1 Pw _ _
 clear HP1 HR1 hB1
 generalize w1.setCells P 1 [.slice A.M.qv a A.M.cv,.slice A.M.qu b A.M.cu,.slice A.M.qt c A.M.ct]=w2 at *
 have oP:=HPn.out
 have P5:=oP.at 5 _ rfl
 have Pf5:=oP.ok 5 (Nat.le_of_ble_eq_true rfl)
 have Pl:=oP.lt
 clear oP
 go_upto_region 3 with fail
 clear P5 Pf5 Pl
 rw[show (w2.setCell ⟨P,5,none⟩ (.slice A.X.q d A.X.c))=w2.setCells P 5 [.slice A.X.q d A.X.c] from rfl]
 have HPm:Hid (Own P ([.int .i64 A.k,.slice A.M.qv a A.M.cv,.slice A.M.qu b A.M.cu,.slice A.M.qt c A.M.ct,.int .i64 A.X.S,.slice A.X.q d A.X.c,.int .i64 (A.g 0),.int .i64 (A.g 1),.int .i64 (A.g 2),.int .i64 (A.g 3),.int .i64 (A.g 4),.int .i64 (A.l 0),.int .i64 (A.l 1),.int .i64 (A.l 2),.int .i64 (A.l 3),.int .i64 (A.l 4),.int .i64 (A.l 5),.int .i64 (A.l 6),.int .i64 (A.l 7),.int .i64 (A.l 8),.int .i64 (A.l 9),.int .i64 (A.l 10),.int .i64 (A.l 11),.int .i64 (A.l 12)]) (w2.setCells P 5 [.slice A.X.q d A.X.c])):=Lib.hid (show Own P (over _ 5 [.slice A.X.q d A.X.c]) _ from Own.part HPn.out (Nat.le_of_ble_eq_true rfl))
 have HRm:=Lib.hid (Own.far (o:=5) (vs:=[.slice A.X.q d A.X.c]) HRn.out nRP)
 have hB3:Below w.heap.size w (w2.setCells P 5 [.slice A.X.q d A.X.c]):=Below.setCells hB2 Pw _ _
 clear HPn HRn hB2
 generalize w2.setCells P 5 [.slice A.X.q d A.X.c]=w3 at *
 refine wp_region_lit ?_
 refine wpList_load_mid rfl 45 _ rfl P 0 rfl ([.int .i64 A.k,.slice A.M.qv a A.M.cv,.slice A.M.qu b A.M.cu,.slice A.M.qt c A.M.ct,.int .i64 A.X.S,.slice A.X.q d A.X.c,.int .i64 (A.g 0),.int .i64 (A.g 1),.int .i64 (A.g 2),.int .i64 (A.g 3),.int .i64 (A.g 4),.int .i64 (A.l 0),.int .i64 (A.l 1),.int .i64 (A.l 2),.int .i64 (A.l 3),.int .i64 (A.l 4),.int .i64 (A.l 5),.int .i64 (A.l 6),.int .i64 (A.l 7),.int .i64 (A.l 8),.int .i64 (A.l 9),.int .i64 (A.l 10),.int .i64 (A.l 11),.int .i64 (A.l 12)]) _ HPm.out.cell Tryz.underlying45 rfl (by kernel_rfl) ?_
 refine wpList_store_mid rfl 45 _ _ rfl R 0 ([.int .i64 A.k,.slice A.M.qv a A.M.cv,.slice A.M.qu b A.M.cu,.slice A.M.qt c A.M.ct,.int .i64 A.X.S,.slice A.X.q d A.X.c,.int .i64 (A.g 0),.int .i64 (A.g 1),.int .i64 (A.g 2),.int .i64 (A.g 3),.int .i64 (A.g 4),.int .i64 (A.l 0),.int .i64 (A.l 1),.int .i64 (A.l 2),.int .i64 (A.l 3),.int .i64 (A.l 4),.int .i64 (A.l 5),.int .i64 (A.l 6),.int .i64 (A.l 7),.int .i64 (A.l 8),.int .i64 (A.l 9),.int .i64 (A.l 10),.int .i64 (A.l 11),.int .i64 (A.l 12)]).toArray rfl rfl HRm.out.free (by kernel_rfl) (by first | exact cA_one _ | simp[Value.oneCell']) ?_
 change wpList _ _ _ [] _ (w3.setCells R 0 ([.int .i64 A.k,.slice A.M.qv a A.M.cv,.slice A.M.qu b A.M.cu,.slice A.M.qt c A.M.ct,.int .i64 A.X.S,.slice A.X.q d A.X.c,.int .i64 (A.g 0),.int .i64 (A.g 1),.int .i64 (A.g 2),.int .i64 (A.g 3),.int .i64 (A.g 4),.int .i64 (A.l 0),.int .i64 (A.l 1),.int .i64 (A.l 2),.int .i64 (A.l 3),.int .i64 (A.l 4),.int .i64 (A.l 5),.int .i64 (A.l 6),.int .i64 (A.l 7),.int .i64 (A.l 8),.int .i64 (A.l 9),.int .i64 (A.l 10),.int .i64 (A.l 11),.int .i64 (A.l 12)]))
 have HRo:Hid (Own R ([.int .i64 A.k,.slice A.M.qv a A.M.cv,.slice A.M.qu b A.M.cu,.slice A.M.qt c A.M.ct,.int .i64 A.X.S,.slice A.X.q d A.X.c,.int .i64 (A.g 0),.int .i64 (A.g 1),.int .i64 (A.g 2),.int .i64 (A.g 3),.int .i64 (A.g 4),.int .i64 (A.l 0),.int .i64 (A.l 1),.int .i64 (A.l 2),.int .i64 (A.l 3),.int .i64 (A.l 4),.int .i64 (A.l 5),.int .i64 (A.l 6),.int .i64 (A.l 7),.int .i64 (A.l 8),.int .i64 (A.l 9),.int .i64 (A.l 10),.int .i64 (A.l 11),.int .i64 (A.l 12)]) (w3.setCells R 0 ([.int .i64 A.k,.slice A.M.qv a A.M.cv,.slice A.M.qu b A.M.cu,.slice A.M.qt c A.M.ct,.int .i64 A.X.S,.slice A.X.q d A.X.c,.int .i64 (A.g 0),.int .i64 (A.g 1),.int .i64 (A.g 2),.int .i64 (A.g 3),.int .i64 (A.g 4),.int .i64 (A.l 0),.int .i64 (A.l 1),.int .i64 (A.l 2),.int .i64 (A.l 3),.int .i64 (A.l 4),.int .i64 (A.l 5),.int .i64 (A.l 6),.int .i64 (A.l 7),.int .i64 (A.l 8),.int .i64 (A.l 9),.int .i64 (A.l 10),.int .i64 (A.l 11),.int .i64 (A.l 12)]))):=Lib.hid (Own.store HRm.out rfl)
 have hB4:Below w.heap.size w (w3.setCells R 0 ([.int .i64 A.k,.slice A.M.qv a A.M.cv,.slice A.M.qu b A.M.cu,.slice A.M.qt c A.M.ct,.int .i64 A.X.S,.slice A.X.q d A.X.c,.int .i64 (A.g 0),.int .i64 (A.g 1),.int .i64 (A.g 2),.int .i64 (A.g 3),.int .i64 (A.g 4),.int .i64 (A.l 0),.int .i64 (A.l 1),.int .i64 (A.l 2),.int .i64 (A.l 3),.int .i64 (A.l 4),.int .i64 (A.l 5),.int .i64 (A.l 6),.int .i64 (A.l 7),.int .i64 (A.l 8),.int .i64 (A.l 9),.int .i64 (A.l 10),.int .i64 (A.l 11),.int .i64 (A.l 12)])):=Below.setCells hB3 Rw _ _
 clear HPm HRm hB3
 generalize w3.setCells R 0 ([.int .i64 A.k,.slice A.M.qv a A.M.cv,.slice A.M.qu b A.M.cu,.slice A.M.qt c A.M.ct,.int .i64 A.X.S,.slice A.X.q d A.X.c,.int .i64 (A.g 0),.int .i64 (A.g 1),.int .i64 (A.g 2),.int .i64 (A.g 3),.int .i64 (A.g 4),.int .i64 (A.l 0),.int .i64 (A.l 1),.int .i64 (A.l 2),.int .i64 (A.l 3),.int .i64 (A.l 4),.int .i64 (A.l 5),.int .i64 (A.l 6),.int .i64 (A.l 7),.int .i64 (A.l 8),.int .i64 (A.l 9),.int .i64 (A.l 10),.int .i64 (A.l 11),.int .i64 (A.l 12)])=w4 at *
 go_wp2_with (fail)
 have hL:=run_loadVar_mid (P:=Tryz.prog) _ R 0 45 ([.int .i64 A.k,.slice A.M.qv a A.M.cv,.slice A.M.qu b A.M.cu,.slice A.M.qt c A.M.ct,.int .i64 A.X.S,.slice A.X.q d A.X.c,.int .i64 (A.g 0),.int .i64 (A.g 1),.int .i64 (A.g 2),.int .i64 (A.g 3),.int .i64 (A.g 4),.int .i64 (A.l 0),.int .i64 (A.l 1),.int .i64 (A.l 2),.int .i64 (A.l 3),.int .i64 (A.l 4),.int .i64 (A.l 5),.int .i64 (A.l 6),.int .i64 (A.l 7),.int .i64 (A.l 8),.int .i64 (A.l 9),.int .i64 (A.l 10),.int .i64 (A.l 11),.int .i64 (A.l 12)]) _ HRo.out.cell Tryz.underlying45 rfl (by kernel_rfl)
 exact bodyPost_ret (v := .agg ([.int .i64 A.k,.slice A.M.qv a A.M.cv,.slice A.M.qu b A.M.cu,.slice A.M.qt c A.M.ct,.int .i64 A.X.S,.slice A.X.q d A.X.c,.int .i64 (A.g 0),.int .i64 (A.g 1),.int .i64 (A.g 2),.int .i64 (A.g 3),.int .i64 (A.g 4),.int .i64 (A.l 0),.int .i64 (A.l 1),.int .i64 (A.l 2),.int .i64 (A.l 3),.int .i64 (A.l 4),.int .i64 (A.l 5),.int .i64 (A.l 6),.int .i64 (A.l 7),.int .i64 (A.l 8),.int .i64 (A.l 9),.int .i64 (A.l 10),.int .i64 (A.l 11),.int .i64 (A.l 12)]).toArray) (res_cell Tryz.results9 rfl hL) rfl ⟨rfl,hB4⟩
theorem lfew_any (A:Ast) (w:World) (hA:AstAt A w):Calls Tryz.prog 9 #[(.agg (cA A).toArray)] w fun e w'=>e = .returned (.agg (cA (fewA A)).toArray)∧Below w.heap.size w w' :=
 fewc_any A (min A.M.nv 70) (min A.M.nu 70) (min A.M.nt 70) (min A.X.n 260) (by omega) (by omega) (by omega) (by omega) w hA
end Go.Proofs.YtbilamnnneddmaaGreatDoor
namespace Go.Proofs.YtbilamnnneddmaaGreatDoor
set_option linter.unusedVariables false
set_option maxRecDepth 2000
set_option linter.unusedSimpArgs false
open Go.ChangeShapes Go.WideShapes Go.ChangeAt Go.RowKit Go.Joins Go.Deep
theorem cell_lt_ {w:World} {b o:Nat} {v:Value} (h:w.cell? ⟨b,o,none⟩=some v):b<w.heap.size:=by
 by_cases hb:b<w.heap.size
 ·exact hb
 ·exfalso
  have:w.heap[b]?=none:=Array.getElem?_eq_none (by omega)
  simp[World.cell?,this] at h
def isInts (S:Nat) (cs:List Value):Prop:=∃ zs:List Int,zs.length=S∧cs=zs.map (Value.int .i64)
theorem cs_nms {H:Type} {enc:TypeId×Value→H} {P:Program} {w:World} {base:Nat} {spare:Nat→Bool} {held:Bool} {fuel:Nat} {cs:List Value} {x:DataW H×List MemPlace} {t e:TypeId} {S:Nat}
  (ht:P.underlying t=some (.slice e)) (hC:P.cellsOf e=S) (hS:0<S)
  (hQ:∀ fuel cs x,DataW.trod enc P w base spare held fuel e cs=some x→isInts S cs)
  (h:DataW.trod enc P w base spare held fuel t cs=some x):∃ q n c f,cs=[.slice q n c]∧n≤c∧c≤9223372036854775807∧NmS w S q n f:=by
 rcases DataW.trod_slice ht h with ⟨h0,_⟩ | ⟨a,len,cap,elems,rest,n,_,hcs,hx,hb,hl,hm,hlen,hel,_,_⟩
 ·subst h0
  exact⟨none,0,0,fun _=>0,rfl,Nat.le_refl _,by decide,.inl rfl⟩
 ·subst hcs
  have hm2:cap≤9223372036854775807:=by unfold maxLen at hm;omega
  have key:∀ i,i<len→∃ zs:List Int,zs.length=S∧∀ j,j<S→w.cell? ((a.add (i*S)).add j)=some (.int .i64 (zs.getD j 0)):=fun i hi=>by
   have hy:elems[i]?=some (elems[i]'(by omega)):=List.getElem?_eq_getElem (by omega)
   have hb':=(hel i hi).trans hy
   rw[hC,Option.bind_eq_some_iff] at hb'
   obtain⟨c3,hcs,hy'⟩:=hb'
   obtain⟨_,hc3,hcell⟩:=World.cells?_some hcs
   obtain⟨zs,hz,rfl⟩:=hQ _ _ _ hy'
   refine⟨zs,hz,fun j hj=>?_⟩
   have h1:=hcell j hj
   rw[h1,List.getElem?_map,List.getElem?_eq_getElem (by omega)]
   simp[List.getD_eq_getElem?_getD,List.getElem?_eq_getElem (show j<zs.length by omega)]
  by_cases hl0:len=0
  ·subst hl0
   exact⟨some a,0,cap,fun _=>0,rfl,Nat.zero_le _,hm2,.inl rfl⟩
  ·obtain⟨blk,off,spot⟩:=a
   have hspot:spot=none:=by
    obtain⟨z,_,h0⟩:=key 0 (by omega)
    simpa[Addr.add] using World.cell?_spot (h0 0 hS)
   subst hspot
   have ch:∀ k,∃ zs:List Int,k<len→∀ j,j<S→w.cell? ⟨blk,off+k*S+j,none⟩=some (.int .i64 (zs.getD j 0)):=fun k=>by
    by_cases hk:k<len
    ·obtain⟨zs,_,h1⟩:=key k hk
     refine⟨zs,fun _ j hj=>?_⟩
     have h2:=h1 j hj
     rwa [Addr.add_mid,Addr.add_mid] at h2
    ·exact⟨[],fun h=>absurd h hk⟩
   refine⟨some ⟨blk,off,none⟩,len,cap,fun j=>(Classical.choose (ch (j/S))).getD (j%S) 0,rfl,hl,hm2,.inr ⟨blk,off,rfl,?_,fun j v hj=>?_⟩⟩
   ·exact cell_lt_ (Classical.choose_spec (ch 0) (by omega) 0 hS)
   ·have hjl:j<len*S:=by
     have:=(List.getElem?_eq_some_iff.1 hj).1
     rwa [nums_length] at this
    rw[nums_at _ _ hjl] at hj
    have hq:j/S<len:=Nat.div_lt_of_lt_mul (by rw[Nat.mul_comm];exact hjl)
    have:=Classical.choose_spec (ch (j/S)) hq (j%S) (Nat.mod_lt _ hS)
    rw[show off+j/S*S+j%S=off+j by rw[Nat.add_assoc,Nat.div_add_mod' j S]] at this
    rw[← hj]
    exact this
theorem cs_ints3 {H:Type} {enc:TypeId×Value→H} {w:World} {base:Nat} {spare:Nat→Bool} {held:Bool} {fuel:Nat} {cs:List Value} {x:DataW H×List MemPlace}
  (h:DataW.trod enc Tryz.prog w base spare held fuel 37 cs=some x):isInts 3 cs:=by
 obtain⟨zs,hz,e,_⟩:=trod_arr Tryz.underlying37 Tryz.underlying3 (by kernel_rfl) (by kernel_rfl) h
 exact⟨zs,hz,e⟩
theorem cs_ints2 {H:Type} {enc:TypeId×Value→H} {w:World} {base:Nat} {spare:Nat→Bool} {held:Bool} {fuel:Nat} {cs:List Value} {x:DataW H×List MemPlace}
  (h:DataW.trod enc Tryz.prog w base spare held fuel 99 cs=some x):isInts 2 cs:=by
 obtain⟨zs,hz,e,_⟩:=trod_arr Tryz.underlying99 Tryz.underlying3 (by kernel_rfl) (by kernel_rfl) h
 exact⟨zs,hz,e⟩
theorem list3_ {l:List Value} (h:l.length=3):∃ a b c,l=[a,b,c]:=by
 match l,h with
 | [a,b,c],_=>exact⟨a,b,c,rfl⟩
theorem cs_point {H:Type} {enc:TypeId×Value→H} {P:Program} {w:World} {base:Nat} {spare:Nat→Bool} {held:Bool} {t:TypeId} {f0 f1 f2:Field} {fuel:Nat} {cs:List Value} {x:DataW H×List MemPlace}
  (hs:P.underlying t=some (.struct #[f0,f1,f2])) (hone:oneCellFields P #[f0,f1,f2]=true) (hC:P.cellsOf t=3)
  (k0:P.underlying f0.type=some (.int .i64)) (k1:P.underlying f1.type=some (.int .i64)) (k2:P.underlying f2.type=some (.int .i64)) (h:DataW.trod enc P w base spare held fuel t cs=some x):isInts 3 cs:=by
 obtain⟨y0,y1,y2,m,_,hl,h0,h1,h2⟩:=trod_struct3 hs h
 rw[hC] at hl
 obtain⟨v0,v1,v2,rfl⟩:=list3_ hl
 obtain⟨o0,q0⟩:=hone_of hone 0 f0 rfl
 obtain⟨o1,q1⟩:=hone_of hone 1 f1 rfl
 obtain⟨o2,q2⟩:=hone_of hone 2 f2 rfl
 obtain⟨p,e0,_,w0⟩:=DataW.trod_int k0 (by simpa[o0,q0] using h0)
 obtain⟨q,e1,_,w1⟩:=DataW.trod_int k1 (by simpa[o1,q1] using h1)
 obtain⟨r,e2,_,w2⟩:=DataW.trod_int k2 (by simpa[o2,q2] using h2)
 simp at e0 e1 e2
 subst e0 e1 e2
 exact⟨[p,q,r],rfl,rfl⟩
theorem cs_point_ {H:Type} {enc:TypeId×Value→H} {w:World} {base:Nat} {spare:Nat→Bool} {held:Bool} {fuel:Nat} {cs:List Value} {x:DataW H×List MemPlace}
  (h:DataW.trod enc Tryz.prog w base spare held fuel 41 cs=some x):isInts 3 cs :=
 cs_point Tryz.underlying41 (by kernel_rfl) (by kernel_rfl) Tryz.underlying3 Tryz.underlying3 Tryz.underlying3 h
theorem split3_ (l:List Value) (h:l.length=3):l=(l.drop 0).take 1 ++ ((l.drop 1).take 1 ++ (l.drop 2).take 1):=by
 obtain⟨a,b,c,rfl⟩:=list3_ h
 rfl
theorem cs_mesh {H:Type} {enc:TypeId×Value→H} {w:World} {base:Nat} {spare:Nat→Bool} {held:Bool} {fuel:Nat} {cs:List Value} {x:DataW H×List MemPlace}
  (h:DataW.trod enc Tryz.prog w base spare held fuel 34 cs=some x):∃ M:Msh,cs=[.slice M.qv M.nv M.cv,.slice M.qu M.nu M.cu,.slice M.qt M.nt M.ct]∧MeshAt M w:=by
 obtain⟨xs,n,_,rfl,hl,hlen,hf⟩:=DataW.trod_struct Tryz.underlying34 h
 have cS:Tryz.prog.cellsOf 34=3:=by kernel_rfl
 have c0:Tryz.prog.cellsOf 30=1:=by kernel_rfl
 have c1:Tryz.prog.cellsOf 31=1:=by kernel_rfl
 have c2:Tryz.prog.cellsOf 32=1:=by kernel_rfl
 rw[cS] at hl
 match xs,hlen with
 | [y0,y1,y2],_ =>
  have h0:DataW.trod enc Tryz.prog w base spare held n 30 ((cs.drop 0).take (Tryz.prog.cellsOf 30))=some y0:=hf 0 _ rfl
  rw[c0] at h0
  have h1:DataW.trod enc Tryz.prog w base spare held n 31 ((cs.drop 1).take (Tryz.prog.cellsOf 31))=some y1:=hf 1 _ rfl
  rw[c1] at h1
  have h2:DataW.trod enc Tryz.prog w base spare held n 32 ((cs.drop 2).take (Tryz.prog.cellsOf 32))=some y2:=hf 2 _ rfl
  rw[c2] at h2
  obtain⟨qv,nv,cv,V,e0,a0,b0,n0⟩:=cs_nms (S:=3) Tryz.underlying30 (by kernel_rfl) (by decide) (fun _ _ _ h=>cs_point_ h) h0
  obtain⟨qu,nu,cu,U,e1,a1,b1,n1⟩:=cs_nms (S:=2) Tryz.underlying31 (by kernel_rfl) (by decide) (fun _ _ _ h=>cs_ints2 h) h1
  obtain⟨qt,nt,ct,R,e2,a2,b2,n2⟩:=cs_nms (S:=3) Tryz.underlying32 (by kernel_rfl) (by decide) (fun _ _ _ h=>cs_ints3 h) h2
  refine⟨⟨qv,nv,cv,V,qu,nu,cu,U,qt,nt,ct,R⟩,?_,⟨n0,n1,n2,a0,a1,a2,b0,b1,b2⟩⟩
  have e:=split3_ cs hl
  rw[e0,e1,e2] at e
  exact e
theorem split2_ (l:List Value) (h:l.length=2):l=(l.drop 0).take 1 ++ (l.drop 1).take 1:=by
 match l,h with
 | [a,b],_=>rfl
theorem cs_tex {H:Type} {enc:TypeId×Value→H} {w:World} {base:Nat} {spare:Nat→Bool} {held:Bool} {fuel:Nat} {cs:List Value} {x:DataW H×List MemPlace}
  (h:DataW.trod enc Tryz.prog w base spare held fuel 36 cs=some x):∃ M:Txr,cs=[.int .i64 M.S,.slice M.q M.n M.c]∧TxAt M w:=by
 obtain⟨xs,n,_,rfl,hl,hlen,hf⟩:=DataW.trod_struct Tryz.underlying36 h
 have cS:Tryz.prog.cellsOf 36=2:=by kernel_rfl
 have c0:Tryz.prog.cellsOf 3=1:=by kernel_rfl
 have c1:Tryz.prog.cellsOf 32=1:=by kernel_rfl
 rw[cS] at hl
 match xs,hlen with
 | [y0,y1],_ =>
  have h0:DataW.trod enc Tryz.prog w base spare held n 3 ((cs.drop 0).take (Tryz.prog.cellsOf 3))=some y0:=hf 0 _ rfl
  rw[c0] at h0
  have h1:DataW.trod enc Tryz.prog w base spare held n 32 ((cs.drop 1).take (Tryz.prog.cellsOf 32))=some y1:=hf 1 _ rfl
  rw[c1] at h1
  obtain⟨S,e0,_,_⟩:=DataW.trod_int Tryz.underlying3 h0
  obtain⟨q,m,c,f,e1,a1,b1,n1⟩:=cs_nms (S:=3) Tryz.underlying32 (by kernel_rfl) (by decide) (fun _ _ _ h=>cs_ints3 h) h1
  refine⟨⟨S,q,m,c,f⟩,?_,⟨n1,a1,b1⟩⟩
  have e:=split2_ cs hl
  rw[e0,e1] at e
  exact e
theorem spl_mat (l:List Value) (h:l.length=5):l=(l.drop 0).take 1 ++ ((l.drop 1).take 3 ++ ((l.drop 4).take 1)):=by
 apply List.ext_getElem?
 intro j
 simp only[List.getElem?_append,List.getElem?_take,List.getElem?_drop,List.length_take,List.length_drop,h]
 repeat' split
 all_goals first | rfl | (congr 1;omega) | (exfalso;omega) | (rw[List.getElem?_eq_none (by omega)])
theorem spl_lgt (l:List Value) (h:l.length=13):l=(l.drop 0).take 1 ++ ((l.drop 1).take 3 ++ ((l.drop 4).take 3 ++ ((l.drop 7).take 3 ++ ((l.drop 10).take 3)))):=by
 apply List.ext_getElem?
 intro j
 simp only[List.getElem?_append,List.getElem?_take,List.getElem?_drop,List.length_take,List.length_drop,h]
 repeat' split
 all_goals first | rfl | (congr 1;omega) | (exfalso;omega) | (rw[List.getElem?_eq_none (by omega)])
theorem spl_ast (l:List Value) (h:l.length=24):l=(l.drop 0).take 1 ++ ((l.drop 1).take 3 ++ ((l.drop 4).take 2 ++ ((l.drop 6).take 5 ++ ((l.drop 11).take 13)))):=by
 apply List.ext_getElem?
 intro j
 simp only[List.getElem?_append,List.getElem?_take,List.getElem?_drop,List.length_take,List.length_drop,h]
 repeat' split
 all_goals first | rfl | (congr 1;omega) | (exfalso;omega) | (rw[List.getElem?_eq_none (by omega)])
theorem isInts.app {S T:Nat} {a b:List Value} (h:isInts S a) (k:isInts T b):isInts (S+T) (a ++ b):=by
 obtain⟨x,hx,rfl⟩:=h
 obtain⟨y,hy,rfl⟩:=k
 exact⟨x ++ y,by simp[hx,hy],by simp⟩
theorem ints_fun {S:Nat} {cs:List Value} (h:isInts S cs):∃ g:Nat→Int,cs=nums .i64 g S:=by
 obtain⟨zs,hz,rfl⟩:=h
 refine⟨fun i=>zs.getD i 0,List.ext_getElem? fun j=>?_⟩
 by_cases hj:j<S
 ·rw[nums_at _ _ hj,List.getElem?_map,List.getElem?_eq_getElem (by omega)]
  simp[List.getD_eq_getElem?_getD,List.getElem?_eq_getElem (show j<zs.length by omega)]
 ·rw[nums_out _ _ (by omega),List.getElem?_eq_none (by simp;omega)]
set_option maxHeartbeats 1000000 in
theorem cs_mat {H:Type} {enc:TypeId×Value→H} {w:World} {base:Nat} {spare:Nat→Bool} {held:Bool} {fuel:Nat} {cs:List Value} {x:DataW H×List MemPlace}
  (h:DataW.trod enc Tryz.prog w base spare held fuel 39 cs=some x):isInts 5 cs:=by
 obtain⟨xs,n,_,rfl,hl,hlen,hf⟩:=DataW.trod_struct Tryz.underlying39 h
 rw[show Tryz.prog.cellsOf 39=5 from by kernel_rfl] at hl
 match xs,hlen with
 | [y0,y1,y2],_ =>
  have h0:DataW.trod enc Tryz.prog w base spare held n 3 ((cs.drop 0).take (Tryz.prog.cellsOf 3))=some y0:=hf 0 _ rfl
  rw[show Tryz.prog.cellsOf 3=1 from by kernel_rfl] at h0
  have h1:DataW.trod enc Tryz.prog w base spare held n 37 ((cs.drop 1).take (Tryz.prog.cellsOf 37))=some y1:=hf 1 _ rfl
  rw[show Tryz.prog.cellsOf 37=3 from by kernel_rfl] at h1
  have h2:DataW.trod enc Tryz.prog w base spare held n 3 ((cs.drop 4).take (Tryz.prog.cellsOf 3))=some y2:=hf 2 _ rfl
  rw[show Tryz.prog.cellsOf 3=1 from by kernel_rfl] at h2
  obtain⟨z0,e0,_,_⟩:=DataW.trod_int Tryz.underlying3 h0
  have k0:isInts 1 ((cs.drop 0).take 1):=⟨[z0],rfl,e0⟩
  have k1:=cs_ints3 h1
  obtain⟨z2,e2,_,_⟩:=DataW.trod_int Tryz.underlying3 h2
  have k2:isInts 1 ((cs.drop 4).take 1):=⟨[z2],rfl,e2⟩
  have e:=spl_mat cs hl
  rw[e]
  exact (k0.app (k1.app k2))
set_option maxHeartbeats 1000000 in
theorem cs_lgt {H:Type} {enc:TypeId×Value→H} {w:World} {base:Nat} {spare:Nat→Bool} {held:Bool} {fuel:Nat} {cs:List Value} {x:DataW H×List MemPlace}
  (h:DataW.trod enc Tryz.prog w base spare held fuel 43 cs=some x):isInts 13 cs:=by
 obtain⟨xs,n,_,rfl,hl,hlen,hf⟩:=DataW.trod_struct Tryz.underlying43 h
 rw[show Tryz.prog.cellsOf 43=13 from by kernel_rfl] at hl
 match xs,hlen with
 | [y0,y1,y2,y3,y4],_ =>
  have h0:DataW.trod enc Tryz.prog w base spare held n 3 ((cs.drop 0).take (Tryz.prog.cellsOf 3))=some y0:=hf 0 _ rfl
  rw[show Tryz.prog.cellsOf 3=1 from by kernel_rfl] at h0
  have h1:DataW.trod enc Tryz.prog w base spare held n 37 ((cs.drop 1).take (Tryz.prog.cellsOf 37))=some y1:=hf 1 _ rfl
  rw[show Tryz.prog.cellsOf 37=3 from by kernel_rfl] at h1
  have h2:DataW.trod enc Tryz.prog w base spare held n 41 ((cs.drop 4).take (Tryz.prog.cellsOf 41))=some y2:=hf 2 _ rfl
  rw[show Tryz.prog.cellsOf 41=3 from by kernel_rfl] at h2
  have h3:DataW.trod enc Tryz.prog w base spare held n 41 ((cs.drop 7).take (Tryz.prog.cellsOf 41))=some y3:=hf 3 _ rfl
  rw[show Tryz.prog.cellsOf 41=3 from by kernel_rfl] at h3
  have h4:DataW.trod enc Tryz.prog w base spare held n 41 ((cs.drop 10).take (Tryz.prog.cellsOf 41))=some y4:=hf 4 _ rfl
  rw[show Tryz.prog.cellsOf 41=3 from by kernel_rfl] at h4
  obtain⟨z0,e0,_,_⟩:=DataW.trod_int Tryz.underlying3 h0
  have k0:isInts 1 ((cs.drop 0).take 1):=⟨[z0],rfl,e0⟩
  have k1:=cs_ints3 h1
  have k2:=cs_point_ h2
  have k3:=cs_point_ h3
  have k4:=cs_point_ h4
  have e:=spl_lgt cs hl
  rw[e]
  exact (k0.app (k1.app (k2.app (k3.app k4))))
set_option maxHeartbeats 1000000 in
theorem cs_ast {H:Type} {enc:TypeId×Value→H} {w:World} {base:Nat} {spare:Nat→Bool} {held:Bool} {fuel:Nat} {cs:List Value} {x:DataW H×List MemPlace}
  (h:DataW.trod enc Tryz.prog w base spare held fuel 45 cs=some x):∃ A:Ast,cs=(cA A)∧AstAt A w:=by
 obtain⟨xs,n,_,rfl,hl,hlen,hf⟩:=DataW.trod_struct Tryz.underlying45 h
 rw[show Tryz.prog.cellsOf 45=24 from by kernel_rfl] at hl
 match xs,hlen with
 | [y0,y1,y2,y3,y4],_ =>
  have h0:DataW.trod enc Tryz.prog w base spare held n 3 ((cs.drop 0).take (Tryz.prog.cellsOf 3))=some y0:=hf 0 _ rfl
  rw[show Tryz.prog.cellsOf 3=1 from by kernel_rfl] at h0
  have h1:DataW.trod enc Tryz.prog w base spare held n 34 ((cs.drop 1).take (Tryz.prog.cellsOf 34))=some y1:=hf 1 _ rfl
  rw[show Tryz.prog.cellsOf 34=3 from by kernel_rfl] at h1
  have h2:DataW.trod enc Tryz.prog w base spare held n 36 ((cs.drop 4).take (Tryz.prog.cellsOf 36))=some y2:=hf 2 _ rfl
  rw[show Tryz.prog.cellsOf 36=2 from by kernel_rfl] at h2
  have h3:DataW.trod enc Tryz.prog w base spare held n 39 ((cs.drop 6).take (Tryz.prog.cellsOf 39))=some y3:=hf 3 _ rfl
  rw[show Tryz.prog.cellsOf 39=5 from by kernel_rfl] at h3
  have h4:DataW.trod enc Tryz.prog w base spare held n 43 ((cs.drop 11).take (Tryz.prog.cellsOf 43))=some y4:=hf 4 _ rfl
  rw[show Tryz.prog.cellsOf 43=13 from by kernel_rfl] at h4
  obtain⟨k,e0,_,_⟩:=DataW.trod_int Tryz.underlying3 h0
  obtain⟨M,e1,hM⟩:=cs_mesh h1
  obtain⟨X,e2,hX⟩:=cs_tex h2
  obtain⟨g,e3⟩:=ints_fun (cs_mat h3)
  obtain⟨l,e4⟩:=ints_fun (cs_lgt h4)
  refine⟨⟨k,M,X,g,l⟩,?_,⟨hM,hX⟩⟩
  have e:=spl_ast cs hl
  rw[e0,e1,e2,e3,e4] at e
  exact e
theorem open_ast {H:Type} {enc:TypeId×Value→H} {w:World} {base:Nat} {spare:Nat→Bool} {held:Bool} {r:Reach} {b0:Nat} {v:Value} {d:DataW H} {p:List MemPlace}
  (hv:Value.okWide Tryz.prog w r b0 45 v) (h:DataW.Trod enc Tryz.prog w base spare held 45 v d p):∃ A:Ast,v=(.agg (cA A).toArray)∧AstAt A w:=by
 obtain⟨cs,rfl,hsz⟩:=okWide_struct Tryz.underlying45 hv
 obtain⟨fuel,hf⟩:=h
 obtain⟨A,e,ha⟩:=cs_ast hf
 refine⟨A,?_,ha⟩
 simp only[Value.cells] at e
 rw[show cs=cs.toList.toArray from by simp,e]
end Go.Proofs.YtbilamnnneddmaaGreatDoor
