/- asset: decodeMaterial, decodeLight. -/
import Derived.Test.YtokfhhngnpbdkaaDoorJa
import Derived.Test.YtokfhhngnpbdkaaDoorIM
import Derived.Lib.Hide
import Derived.LoopN
import Derived.LoopTactic
import Derived.Deep.Onto
import Derived.Deep.RegionHeld3
import Derived.Deep.QuietTactic
import Derived.BigQuiet
import Derived.Great.BuildSlice
import Derived.StillTailTactics
import Derived.Lib.SliceRun
import Derived.OrdersHeld
namespace Go.Proofs.YtokfhhngnpbdkaaDoor
set_option linter.unusedVariables false
set_option maxRecDepth 2000
set_option linter.unusedSimpArgs false
open Go.RowKit
/-- the numbers of a material, of a light that the bytes tell -/
def decG (F : Nat → Int) (N : Nat) : Nat → Int
  | 0 => valN F N 0 1
  | 1 => valN F N 1 2
  | 2 => valN F N 3 2
  | 3 => valN F N 5 2
  | 4 => valN F N 7 2
  | _ => 0
def decLt (F : Nat → Int) (N : Nat) : Nat → Int
  | 0 => valN F N 0 1
  | 1 => valN F N 1 4
  | 2 => valN F N 5 4
  | 3 => valN F N 9 4
  | 4 => sgnN F N 13
  | 5 => sgnN F N 15
  | 6 => sgnN F N 17
  | 7 => sgnN F N 19
  | 8 => sgnN F N 21
  | 9 => sgnN F N 23
  | 10 => sgnN F N 25
  | 11 => sgnN F N 27
  | 12 => sgnN F N 29
  | _ => 0
theorem AEnd_any {K D N at_ : Nat} {er : Int} {F : Nat → Int} {w : World} (h : Rd w K D F N at_ er) : Calls Tryd.prog 71 #[.pointer (some ⟨K, 0, none⟩)] w fun e w' => e = .returned (.int .i64 (endE N at_ er)) ∧ Below w.heap.size w w' := (End_any h).mono fun _ _ h => ⟨h.1, by rw [h.2]; exact Below.refl _ _⟩
set_option maxHeartbeats 8000000 in
theorem decMat_any (F : Nat → Int) (q : Option Addr) (N c : Nat) (hF : ∀ j, j < N → inB (F j)) (hN : N ≤ 100000) (w : World) (hq : Byt w q N F) :
    Calls Tryd.prog 58 #[.slice q N c] w fun e w' => e = .returned (.tuple #[(.agg #[.int .i64 (decG F N 0), .int .i64 (decG F N 1), .int .i64 (decG F N 2), .int .i64 (decG F N 3), .int .i64 (decG F N 4)]), .int .i64 (endE N 9 (erN N 9))]) ∧ Below w.heap.size w w' := by
  have HQ := Lib.hid hq
  have NW := Lib.hid (fun w hq => New_any q N c F (by omega) w hq)
  have C0_0 := Lib.hid (fun K D w h => Num_next (K := K) (D := D) (N := N) (t := 0) (F := F) (w := w) 1 1 1 rfl rfl (by decide) (by decide) hF h)
  have w0 : IntKind.i64.wrap (valN F N 0 1) = valN F N 0 1 := IntWalk.i64_in _ (by
    have a := in_valN hF 0 1
    have b := pw_le4 (W := 1) (by decide)
    omega)
  have C1_0 := Lib.hid (fun K D w h hD => color_any (K := K) (D := D) (N := N) (t := 1) (F := F) (w := w) 2 (by decide) (by decide) hF h hD)
  have C2_0 := Lib.hid (fun K D w h => Num_next (K := K) (D := D) (N := N) (t := 7) (F := F) (w := w) 2 9 2 rfl rfl (by decide) (by decide) hF h)
  have w2 : IntKind.i64.wrap (valN F N 7 2) = valN F N 7 2 := IntWalk.i64_in _ (by
    have a := in_valN hF 7 2
    have b := pw_le4 (W := 2) (by decide)
    omega)
  clear hq hF hN
  have EQ : Hid ((.agg #[.int .i64 (decG F N 0), .int .i64 (decG F N 1), .int .i64 (decG F N 2), .int .i64 (decG F N 3), .int .i64 (decG F N 4)]) = (Value.agg ([.int .i64 (valN F N 0 1), .int .i64 (valN F N 1 2), .int .i64 (valN F N (1 + 2) 2), .int .i64 (valN F N (1 + 2 + 2) 2), .int .i64 (valN F N 7 2)]).toArray)) := Lib.hid rfl
  rw [EQ.out]
  generalize valN F N 0 1 = x0 at *
  generalize valN F N 1 2 = x1 at *
  generalize valN F N (1 + 2) 2 = x2 at *
  generalize valN F N (1 + 2 + 2) 2 = x3 at *
  generalize valN F N 7 2 = x4 at *
  go_enter Tryd.func58, Tryd.ntmps58
  go_upto_region 1 with fail
  obtain ⟨W0, hW⟩ : ∃ W0, W0 = (w.alloc (.cells #[.int .i64 0, .int .i64 0, .int .i64 0, .int .i64 0, .int .i64 0] 31)) := ⟨_, rfl⟩
  have hB0 : Below w.heap.size w W0 := hW ▸ (Below.al (Below.refl _ _))
  have HP : Hid (Own w.heap.size ([.int .i64 0, .int .i64 0, .int .i64 0, .int .i64 0, .int .i64 0]) W0) := Lib.hid (hW ▸ (show Own w.heap.size ([.int .i64 0, .int .i64 0, .int .i64 0, .int .i64 0, .int .i64 0]) (w.alloc (.cells #[.int .i64 0, .int .i64 0, .int .i64 0, .int .i64 0, .int .i64 0] 31)) from Own.newAt (by simp)))
  rw [← hW]
  clear hW
  obtain ⟨P, eP⟩ : ∃ X, X = w.heap.size := ⟨_, rfl⟩
  rw [← eP] at HP ⊢
  have Pw : w.heap.size ≤ P := by omega
  clear eP
  have HQ0 := Lib.hid (HQ.out.later hB0)
  clear HQ
  go_wp2_with (fail)
  go_at_call 69
  refine (NW.out _ HQ0.out).mono ?_
  rintro e y0 ⟨K, D, rfl, hK, hD, hDl, hr, hb⟩
  have nPK : P ≠ K := by have := HP.out.lt; omega
  have nDP : D ≠ P := by have := HP.out.lt; omega
  have Kw : w.heap.size ≤ K := by have := hB0.size; omega
  have HP0 := Lib.hid (HP.out.later hb); have HR0 := Lib.hid hr; have HB0 := Lib.hid (Below.go hB0 hb); have DL0 := Lib.hid hDl
  rw [show (0 : Int) = erN N 0 from (if_pos (Nat.zero_le _)).symm] at HR0
  clear hK hD hDl hr hb hB0 HP HQ0 NW EQ
  go_wp2_with (fail)
  go_at_call 72
  refine (C0_0.out K D _ HR0.out).mono ?_
  rintro e y1 ⟨rfl, k1, k2⟩
  have HP1 := Lib.hid (HP0.out.but k2 nPK); have HR1 := Lib.hid k1; have HB1 := Lib.hid (HB0.out.trans (k2.below.mono Kw)); have DL1 := Lib.hid (Nat.lt_of_lt_of_le DL0.out k2.below.size)
  clear k1 k2 HP0 HR0 HB0 DL0 C0_0
  have oP := HP1.out
  have P0 := oP.at 0 _ rfl
  have Pf0 := oP.ok 0 (by simp)
  have P1 := oP.at 1 _ rfl
  have Pf1 := oP.ok 1 (by simp)
  have P2 := oP.at 2 _ rfl
  have Pf2 := oP.ok 2 (by simp)
  have P3 := oP.at 3 _ rfl
  have Pf3 := oP.ok 3 (by simp)
  have P4 := oP.at 4 _ rfl
  have Pf4 := oP.ok 4 (by simp)
  have Pl := oP.lt
  clear oP
  go_upto_region 3 with fail
  clear P0 Pf0 P1 Pf1 P2 Pf2 P3 Pf3 P4 Pf4 Pl
  rw [show (y1.setCell ⟨P, 0, none⟩ (.int .i64 x0)) = y1.setCells P 0 [.int .i64 x0] from rfl]
  have HPn : Hid (Own P ([.int .i64 x0, .int .i64 0, .int .i64 0, .int .i64 0, .int .i64 0]) (y1.setCells P 0 [.int .i64 x0])) := Lib.hid (show Own P (over _ 0 [.int .i64 x0]) _ from Own.part HP1.out (by simp))
  have HRn := Lib.hid (Rd.far HR1.out (But.store (K := P) (o := 0) (vs := [.int .i64 x0])) (Ne.symm nPK) nDP)
  have HBn : Hid (Below w.heap.size w (y1.setCells P 0 [.int .i64 x0])) := Lib.hid (Below.setCells HB1.out Pw _ _)
  have DLn : Hid (D < (y1.setCells P 0 [.int .i64 x0]).heap.size) := Lib.hid (by rw [size_setCells]; exact DL1.out)
  clear HP1 HR1 HB1 DL1
  generalize y1.setCells P 0 [.int .i64 x0] = y2 at *
  have HP2 := HPn; have HR2 := HRn; have HB2 := HBn; have DL2 := DLn
  clear HPn HRn HBn DLn
  go_wp2_with (fail)
  go_at_call 75
  refine (C1_0.out K D _ HR2.out (.inr DL2.out)).mono ?_
  rintro e y3 ⟨rfl, k1, k2⟩
  have HP3 := Lib.hid (HP2.out.but k2 nPK); have HR3 := Lib.hid k1; have HB3 := Lib.hid (HB2.out.trans (k2.below.mono Kw)); have DL3 := Lib.hid (Nat.lt_of_lt_of_le DL2.out k2.below.size)
  clear k1 k2 HP2 HR2 HB2 DL2 C1_0
  have oP := HP3.out
  have P0 := oP.at 0 _ rfl
  have Pf0 := oP.ok 0 (by simp)
  have P1 := oP.at 1 _ rfl
  have Pf1 := oP.ok 1 (by simp)
  have P2 := oP.at 2 _ rfl
  have Pf2 := oP.ok 2 (by simp)
  have P3 := oP.at 3 _ rfl
  have Pf3 := oP.ok 3 (by simp)
  have P4 := oP.at 4 _ rfl
  have Pf4 := oP.ok 4 (by simp)
  have Pl := oP.lt
  clear oP
  go_upto_region 4 with fail
  clear P0 Pf0 P1 Pf1 P2 Pf2 P3 Pf3 P4 Pf4 Pl
  rw [show (((y3.setCell ⟨P, 1, none⟩ (.int .i64 x1)).setCell ⟨P, 2, none⟩ (.int .i64 x2)).setCell ⟨P, 3, none⟩ (.int .i64 x3)) = y3.setCells P 1 [.int .i64 x1, .int .i64 x2, .int .i64 x3] from rfl]
  have HPn : Hid (Own P ([.int .i64 x0, .int .i64 x1, .int .i64 x2, .int .i64 x3, .int .i64 0]) (y3.setCells P 1 [.int .i64 x1, .int .i64 x2, .int .i64 x3])) := Lib.hid (show Own P (over _ 1 [.int .i64 x1, .int .i64 x2, .int .i64 x3]) _ from Own.part HP3.out (by simp))
  have HRn := Lib.hid (Rd.far HR3.out (But.store (K := P) (o := 1) (vs := [.int .i64 x1, .int .i64 x2, .int .i64 x3])) (Ne.symm nPK) nDP)
  have HBn : Hid (Below w.heap.size w (y3.setCells P 1 [.int .i64 x1, .int .i64 x2, .int .i64 x3])) := Lib.hid (Below.setCells HB3.out Pw _ _)
  have DLn : Hid (D < (y3.setCells P 1 [.int .i64 x1, .int .i64 x2, .int .i64 x3]).heap.size) := Lib.hid (by rw [size_setCells]; exact DL3.out)
  clear HP3 HR3 HB3 DL3
  generalize y3.setCells P 1 [.int .i64 x1, .int .i64 x2, .int .i64 x3] = y4 at *
  have HP4 := HPn; have HR4 := HRn; have HB4 := HBn; have DL4 := DLn
  clear HPn HRn HBn DLn
  go_wp2_with (fail)
  go_at_call 72
  refine (C2_0.out K D _ HR4.out).mono ?_
  rintro e y5 ⟨rfl, k1, k2⟩
  have HP5 := Lib.hid (HP4.out.but k2 nPK); have HR5 := Lib.hid k1; have HB5 := Lib.hid (HB4.out.trans (k2.below.mono Kw)); have DL5 := Lib.hid (Nat.lt_of_lt_of_le DL4.out k2.below.size)
  clear k1 k2 HP4 HR4 HB4 DL4 C2_0
  have oP := HP5.out
  have P0 := oP.at 0 _ rfl
  have Pf0 := oP.ok 0 (by simp)
  have P1 := oP.at 1 _ rfl
  have Pf1 := oP.ok 1 (by simp)
  have P2 := oP.at 2 _ rfl
  have Pf2 := oP.ok 2 (by simp)
  have P3 := oP.at 3 _ rfl
  have Pf3 := oP.ok 3 (by simp)
  have P4 := oP.at 4 _ rfl
  have Pf4 := oP.ok 4 (by simp)
  have Pl := oP.lt
  clear oP
  go_upto_region 5 with fail
  clear P0 Pf0 P1 Pf1 P2 Pf2 P3 Pf3 P4 Pf4 Pl
  rw [show (y5.setCell ⟨P, 4, none⟩ (.int .i64 x4)) = y5.setCells P 4 [.int .i64 x4] from rfl]
  have HPn : Hid (Own P ([.int .i64 x0, .int .i64 x1, .int .i64 x2, .int .i64 x3, .int .i64 x4]) (y5.setCells P 4 [.int .i64 x4])) := Lib.hid (show Own P (over _ 4 [.int .i64 x4]) _ from Own.part HP5.out (by simp))
  have HRn := Lib.hid (Rd.far HR5.out (But.store (K := P) (o := 4) (vs := [.int .i64 x4])) (Ne.symm nPK) nDP)
  have HBn : Hid (Below w.heap.size w (y5.setCells P 4 [.int .i64 x4])) := Lib.hid (Below.setCells HB5.out Pw _ _)
  have DLn : Hid (D < (y5.setCells P 4 [.int .i64 x4]).heap.size) := Lib.hid (by rw [size_setCells]; exact DL5.out)
  clear HP5 HR5 HB5 DL5
  generalize y5.setCells P 4 [.int .i64 x4] = y6 at *
  have HP6 := HPn; have HR6 := HRn; have HB6 := HBn; have DL6 := DLn
  clear HPn HRn HBn DLn
  refine wp_region_held_drew (S := fun w' => Below y6.heap.size y6 w') (by kernel_rfl) (Below.refl _ _).drew (fun hb0_ => ?_)
  refine wpAnyH_take (i := 0) (v := .agg ([.int .i64 x0, .int .i64 x1, .int .i64 x2, .int .i64 x3, .int .i64 x4]).toArray) rfl (by kernel_rfl) (by kernel_rfl) (by kernel_rfl) (fun _ _ _ h => h) (yieldsIf_load_mid (by rfl) 31 _ rfl P 0 rfl ([.int .i64 x0, .int .i64 x1, .int .i64 x2, .int .i64 x3, .int .i64 x4]) _ (fun w h => (HP6.out.later h).cell) Tryd.underlying31 rfl (by kernel_rfl)) (by assumption) ?_
  try simp only [Act.put, List.getElem_toArray, List.getElem_cons_zero, List.getElem_cons_succ, List.setIfInBounds_toArray, List.set_cons_zero, List.set_cons_succ]
  refine wpAnyH_take (i := 1) (v := ?_) rfl (by kernel_rfl) (by kernel_rfl) (by kernel_rfl) (fun _ _ _ h => h) (Or.inl ⟨by rfl, ?_⟩) (by assumption) ?_
  rotate_left
  · intro w' hS; go_simp; try (with_reducible rfl)
  try simp only [Act.put, List.getElem_toArray, List.getElem_cons_zero, List.getElem_cons_succ, List.setIfInBounds_toArray, List.set_cons_zero, List.set_cons_succ]
  refine wpAnyH_ready (rs := [2]) (by kernel_rfl) (by simp) ?_
  refine AllReadyH.cons rfl (fun K hK => ?_) AllReadyH.nil
  go_simp
  go_at_call 71
  refine (AEnd_any (HR6.out.later hb0_)).mono ?_
  rintro e u1 ⟨rfl, h1⟩
  have bu1 := Below.go hb0_ h1
  clear h1
  refine hK.out _ _ bu1 (fun _ => ?_)
  clear hK K
  try simp only [Act.put, List.getElem_toArray, List.getElem_cons_zero, List.getElem_cons_succ, List.setIfInBounds_toArray, List.set_cons_zero, List.set_cons_succ]
  refine wpAnyH_ready (rs := [3]) (by kernel_rfl) (by simp) ?_
  refine AllReadyH.cons rfl (fun K_ hK => ?_) AllReadyH.nil
  refine step_store_self (by simp [Region.wanted]) 31 _ _ rfl P #[.int .i64 x0, .int .i64 x1, .int .i64 x2, .int .i64 x3, .int .i64 x4] rfl rfl (HP6.out.later bu1) (by kernel_rfl) (by simp [Value.oneCell']) ?_
  refine hK.out _ _ bu1 (fun _ => ?_)
  clear hK K_
  try simp only [Act.put, List.getElem_toArray, List.getElem_cons_zero, List.getElem_cons_succ, List.setIfInBounds_toArray, List.set_cons_zero, List.set_cons_succ]
  refine wpAnyH_take (i := 4) (v := ?_) rfl (by kernel_rfl) (by kernel_rfl) (by kernel_rfl) (fun _ _ _ h => h) (Or.inl ⟨by rfl, ?_⟩) (by assumption) ?_
  rotate_left
  · intro w' hS; go_simp; try (with_reducible rfl)
  try simp only [Act.put, List.getElem_toArray, List.getElem_cons_zero, List.getElem_cons_succ, List.setIfInBounds_toArray, List.set_cons_zero, List.set_cons_succ]
  refine wpAnyH_done (by kernel_rfl) ?_ _
  have HPz := HP6.out.later bu1
  have HBz := Below.go HB6.out bu1
  go_wp2_with (fail)
  have hL := run_loadVar_mid (P := Tryd.prog) _ P 0 31 ([.int .i64 x0, .int .i64 x1, .int .i64 x2, .int .i64 x3, .int .i64 x4]) _ HPz.cell Tryd.underlying31 rfl (by kernel_rfl)
  exact bodyPost_ret (v := .tuple #[.agg ([.int .i64 x0, .int .i64 x1, .int .i64 x2, .int .i64 x3, .int .i64 x4]).toArray, .int .i64 (endE N 9 (erN N 9))]) (res_two Tryd.results58 rfl hL rfl) rfl ⟨rfl, HBz⟩
set_option maxHeartbeats 8000000 in
theorem decLgt_any (F : Nat → Int) (q : Option Addr) (N c : Nat) (hF : ∀ j, j < N → inB (F j)) (hN : N ≤ 100000) (w : World) (hq : Byt w q N F) :
    Calls Tryd.prog 59 #[.slice q N c] w fun e w' => e = .returned (.tuple #[(.agg #[.int .i64 (decLt F N 0), .int .i64 (decLt F N 1), .int .i64 (decLt F N 2), .int .i64 (decLt F N 3), .int .i64 (decLt F N 4), .int .i64 (decLt F N 5), .int .i64 (decLt F N 6), .int .i64 (decLt F N 7), .int .i64 (decLt F N 8), .int .i64 (decLt F N 9), .int .i64 (decLt F N 10), .int .i64 (decLt F N 11), .int .i64 (decLt F N 12)]), .int .i64 (endE N 31 (erN N 31))]) ∧ Below w.heap.size w w' := by
  have HQ := Lib.hid hq
  have NW := Lib.hid (fun w hq => New_any q N c F (by omega) w hq)
  have C0_0 := Lib.hid (fun K D w h => Num_next (K := K) (D := D) (N := N) (t := 0) (F := F) (w := w) 1 1 1 rfl rfl (by decide) (by decide) hF h)
  have w0 : IntKind.i64.wrap (valN F N 0 1) = valN F N 0 1 := IntWalk.i64_in _ (by
    have a := in_valN hF 0 1
    have b := pw_le4 (W := 1) (by decide)
    omega)
  have C1_0 := Lib.hid (fun K D w h hD => color_any (K := K) (D := D) (N := N) (t := 1) (F := F) (w := w) 4 (by decide) (by decide) hF h hD)
  have C2_0 := Lib.hid (fun K D w h hD => point_any (K := K) (D := D) (N := N) (t := 13) (F := F) (w := w) hF h hD)
  have C2_1 := Lib.hid (fun K D w h hD => point_any (K := K) (D := D) (N := N) (t := 19) (F := F) (w := w) hF h hD)
  have C2_2 := Lib.hid (fun K D w h hD => point_any (K := K) (D := D) (N := N) (t := 25) (F := F) (w := w) hF h hD)
  clear hq hF hN
  have EQ : Hid ((.agg #[.int .i64 (decLt F N 0), .int .i64 (decLt F N 1), .int .i64 (decLt F N 2), .int .i64 (decLt F N 3), .int .i64 (decLt F N 4), .int .i64 (decLt F N 5), .int .i64 (decLt F N 6), .int .i64 (decLt F N 7), .int .i64 (decLt F N 8), .int .i64 (decLt F N 9), .int .i64 (decLt F N 10), .int .i64 (decLt F N 11), .int .i64 (decLt F N 12)]) = (Value.agg ([.int .i64 (valN F N 0 1), .int .i64 (valN F N 1 4), .int .i64 (valN F N (1 + 4) 4), .int .i64 (valN F N (1 + 4 + 4) 4), .int .i64 (sgnN F N 13), .int .i64 (sgnN F N (13 + 2)), .int .i64 (sgnN F N (13 + 4)), .int .i64 (sgnN F N 19), .int .i64 (sgnN F N (19 + 2)), .int .i64 (sgnN F N (19 + 4)), .int .i64 (sgnN F N 25), .int .i64 (sgnN F N (25 + 2)), .int .i64 (sgnN F N (25 + 4))]).toArray)) := Lib.hid rfl
  rw [EQ.out]
  generalize valN F N 0 1 = x0 at *
  generalize valN F N 1 4 = x1 at *
  generalize valN F N (1 + 4) 4 = x2 at *
  generalize valN F N (1 + 4 + 4) 4 = x3 at *
  generalize sgnN F N 13 = x4 at *
  generalize sgnN F N (13 + 2) = x5 at *
  generalize sgnN F N (13 + 4) = x6 at *
  generalize sgnN F N 19 = x7 at *
  generalize sgnN F N (19 + 2) = x8 at *
  generalize sgnN F N (19 + 4) = x9 at *
  generalize sgnN F N 25 = x10 at *
  generalize sgnN F N (25 + 2) = x11 at *
  generalize sgnN F N (25 + 4) = x12 at *
  go_enter Tryd.func59, Tryd.ntmps59
  go_upto_region 1 with fail
  obtain ⟨W0, hW⟩ : ∃ W0, W0 = (w.alloc (.cells #[.int .i64 0, .int .i64 0, .int .i64 0, .int .i64 0, .int .i64 0, .int .i64 0, .int .i64 0, .int .i64 0, .int .i64 0, .int .i64 0, .int .i64 0, .int .i64 0, .int .i64 0] 35)) := ⟨_, rfl⟩
  have hB0 : Below w.heap.size w W0 := hW ▸ (Below.al (Below.refl _ _))
  have HP : Hid (Own w.heap.size ([.int .i64 0, .int .i64 0, .int .i64 0, .int .i64 0, .int .i64 0, .int .i64 0, .int .i64 0, .int .i64 0, .int .i64 0, .int .i64 0, .int .i64 0, .int .i64 0, .int .i64 0]) W0) := Lib.hid (hW ▸ (show Own w.heap.size ([.int .i64 0, .int .i64 0, .int .i64 0, .int .i64 0, .int .i64 0, .int .i64 0, .int .i64 0, .int .i64 0, .int .i64 0, .int .i64 0, .int .i64 0, .int .i64 0, .int .i64 0]) (w.alloc (.cells #[.int .i64 0, .int .i64 0, .int .i64 0, .int .i64 0, .int .i64 0, .int .i64 0, .int .i64 0, .int .i64 0, .int .i64 0, .int .i64 0, .int .i64 0, .int .i64 0, .int .i64 0] 35)) from Own.newAt (by simp)))
  rw [← hW]
  clear hW
  obtain ⟨P, eP⟩ : ∃ X, X = w.heap.size := ⟨_, rfl⟩
  rw [← eP] at HP ⊢
  have Pw : w.heap.size ≤ P := by omega
  clear eP
  have HQ0 := Lib.hid (HQ.out.later hB0)
  clear HQ
  go_wp2_with (fail)
  go_at_call 69
  refine (NW.out _ HQ0.out).mono ?_
  rintro e y0 ⟨K, D, rfl, hK, hD, hDl, hr, hb⟩
  have nPK : P ≠ K := by have := HP.out.lt; omega
  have nDP : D ≠ P := by have := HP.out.lt; omega
  have Kw : w.heap.size ≤ K := by have := hB0.size; omega
  have HP0 := Lib.hid (HP.out.later hb); have HR0 := Lib.hid hr; have HB0 := Lib.hid (Below.go hB0 hb); have DL0 := Lib.hid hDl
  rw [show (0 : Int) = erN N 0 from (if_pos (Nat.zero_le _)).symm] at HR0
  clear hK hD hDl hr hb hB0 HP HQ0 NW EQ
  go_wp2_with (fail)
  go_at_call 72
  refine (C0_0.out K D _ HR0.out).mono ?_
  rintro e y1 ⟨rfl, k1, k2⟩
  have HP1 := Lib.hid (HP0.out.but k2 nPK); have HR1 := Lib.hid k1; have HB1 := Lib.hid (HB0.out.trans (k2.below.mono Kw)); have DL1 := Lib.hid (Nat.lt_of_lt_of_le DL0.out k2.below.size)
  clear k1 k2 HP0 HR0 HB0 DL0 C0_0
  have oP := HP1.out
  have P0 := oP.at 0 _ rfl
  have Pf0 := oP.ok 0 (by simp)
  have P1 := oP.at 1 _ rfl
  have Pf1 := oP.ok 1 (by simp)
  have P2 := oP.at 2 _ rfl
  have Pf2 := oP.ok 2 (by simp)
  have P3 := oP.at 3 _ rfl
  have Pf3 := oP.ok 3 (by simp)
  have P4 := oP.at 4 _ rfl
  have Pf4 := oP.ok 4 (by simp)
  have P5 := oP.at 5 _ rfl
  have Pf5 := oP.ok 5 (by simp)
  have P6 := oP.at 6 _ rfl
  have Pf6 := oP.ok 6 (by simp)
  have P7 := oP.at 7 _ rfl
  have Pf7 := oP.ok 7 (by simp)
  have P8 := oP.at 8 _ rfl
  have Pf8 := oP.ok 8 (by simp)
  have P9 := oP.at 9 _ rfl
  have Pf9 := oP.ok 9 (by simp)
  have P10 := oP.at 10 _ rfl
  have Pf10 := oP.ok 10 (by simp)
  have P11 := oP.at 11 _ rfl
  have Pf11 := oP.ok 11 (by simp)
  have P12 := oP.at 12 _ rfl
  have Pf12 := oP.ok 12 (by simp)
  have Pl := oP.lt
  clear oP
  go_upto_region 3 with fail
  clear P0 Pf0 P1 Pf1 P2 Pf2 P3 Pf3 P4 Pf4 P5 Pf5 P6 Pf6 P7 Pf7 P8 Pf8 P9 Pf9 P10 Pf10 P11 Pf11 P12 Pf12 Pl
  rw [show (y1.setCell ⟨P, 0, none⟩ (.int .i64 x0)) = y1.setCells P 0 [.int .i64 x0] from rfl]
  have HPn : Hid (Own P ([.int .i64 x0, .int .i64 0, .int .i64 0, .int .i64 0, .int .i64 0, .int .i64 0, .int .i64 0, .int .i64 0, .int .i64 0, .int .i64 0, .int .i64 0, .int .i64 0, .int .i64 0]) (y1.setCells P 0 [.int .i64 x0])) := Lib.hid (show Own P (over _ 0 [.int .i64 x0]) _ from Own.part HP1.out (by simp))
  have HRn := Lib.hid (Rd.far HR1.out (But.store (K := P) (o := 0) (vs := [.int .i64 x0])) (Ne.symm nPK) nDP)
  have HBn : Hid (Below w.heap.size w (y1.setCells P 0 [.int .i64 x0])) := Lib.hid (Below.setCells HB1.out Pw _ _)
  have DLn : Hid (D < (y1.setCells P 0 [.int .i64 x0]).heap.size) := Lib.hid (by rw [size_setCells]; exact DL1.out)
  clear HP1 HR1 HB1 DL1
  generalize y1.setCells P 0 [.int .i64 x0] = y2 at *
  have HP2 := HPn; have HR2 := HRn; have HB2 := HBn; have DL2 := DLn
  clear HPn HRn HBn DLn
  go_wp2_with (fail)
  go_at_call 75
  refine (C1_0.out K D _ HR2.out (.inr DL2.out)).mono ?_
  rintro e y3 ⟨rfl, k1, k2⟩
  have HP3 := Lib.hid (HP2.out.but k2 nPK); have HR3 := Lib.hid k1; have HB3 := Lib.hid (HB2.out.trans (k2.below.mono Kw)); have DL3 := Lib.hid (Nat.lt_of_lt_of_le DL2.out k2.below.size)
  clear k1 k2 HP2 HR2 HB2 DL2 C1_0
  have oP := HP3.out
  have P0 := oP.at 0 _ rfl
  have Pf0 := oP.ok 0 (by simp)
  have P1 := oP.at 1 _ rfl
  have Pf1 := oP.ok 1 (by simp)
  have P2 := oP.at 2 _ rfl
  have Pf2 := oP.ok 2 (by simp)
  have P3 := oP.at 3 _ rfl
  have Pf3 := oP.ok 3 (by simp)
  have P4 := oP.at 4 _ rfl
  have Pf4 := oP.ok 4 (by simp)
  have P5 := oP.at 5 _ rfl
  have Pf5 := oP.ok 5 (by simp)
  have P6 := oP.at 6 _ rfl
  have Pf6 := oP.ok 6 (by simp)
  have P7 := oP.at 7 _ rfl
  have Pf7 := oP.ok 7 (by simp)
  have P8 := oP.at 8 _ rfl
  have Pf8 := oP.ok 8 (by simp)
  have P9 := oP.at 9 _ rfl
  have Pf9 := oP.ok 9 (by simp)
  have P10 := oP.at 10 _ rfl
  have Pf10 := oP.ok 10 (by simp)
  have P11 := oP.at 11 _ rfl
  have Pf11 := oP.ok 11 (by simp)
  have P12 := oP.at 12 _ rfl
  have Pf12 := oP.ok 12 (by simp)
  have Pl := oP.lt
  clear oP
  go_upto_region 4 with fail
  clear P0 Pf0 P1 Pf1 P2 Pf2 P3 Pf3 P4 Pf4 P5 Pf5 P6 Pf6 P7 Pf7 P8 Pf8 P9 Pf9 P10 Pf10 P11 Pf11 P12 Pf12 Pl
  rw [show (((y3.setCell ⟨P, 1, none⟩ (.int .i64 x1)).setCell ⟨P, 2, none⟩ (.int .i64 x2)).setCell ⟨P, 3, none⟩ (.int .i64 x3)) = y3.setCells P 1 [.int .i64 x1, .int .i64 x2, .int .i64 x3] from rfl]
  have HPn : Hid (Own P ([.int .i64 x0, .int .i64 x1, .int .i64 x2, .int .i64 x3, .int .i64 0, .int .i64 0, .int .i64 0, .int .i64 0, .int .i64 0, .int .i64 0, .int .i64 0, .int .i64 0, .int .i64 0]) (y3.setCells P 1 [.int .i64 x1, .int .i64 x2, .int .i64 x3])) := Lib.hid (show Own P (over _ 1 [.int .i64 x1, .int .i64 x2, .int .i64 x3]) _ from Own.part HP3.out (by simp))
  have HRn := Lib.hid (Rd.far HR3.out (But.store (K := P) (o := 1) (vs := [.int .i64 x1, .int .i64 x2, .int .i64 x3])) (Ne.symm nPK) nDP)
  have HBn : Hid (Below w.heap.size w (y3.setCells P 1 [.int .i64 x1, .int .i64 x2, .int .i64 x3])) := Lib.hid (Below.setCells HB3.out Pw _ _)
  have DLn : Hid (D < (y3.setCells P 1 [.int .i64 x1, .int .i64 x2, .int .i64 x3]).heap.size) := Lib.hid (by rw [size_setCells]; exact DL3.out)
  clear HP3 HR3 HB3 DL3
  generalize y3.setCells P 1 [.int .i64 x1, .int .i64 x2, .int .i64 x3] = y4 at *
  have HP4 := HPn; have HR4 := HRn; have HB4 := HBn; have DL4 := DLn
  clear HPn HRn HBn DLn
  go_wp2_with (fail)
  go_at_call 76
  refine (C2_0.out K D _ HR4.out (.inr DL4.out)).mono ?_
  rintro e y5 ⟨rfl, k1, k2⟩
  have HP5 := Lib.hid (HP4.out.but k2 nPK); have HR5 := Lib.hid k1; have HB5 := Lib.hid (HB4.out.trans (k2.below.mono Kw)); have DL5 := Lib.hid (Nat.lt_of_lt_of_le DL4.out k2.below.size)
  clear k1 k2 HP4 HR4 HB4 DL4 C2_0
  go_wp2_with (fail)
  go_at_call 76
  refine (C2_1.out K D _ HR5.out (.inr DL5.out)).mono ?_
  rintro e y6 ⟨rfl, k1, k2⟩
  have HP6 := Lib.hid (HP5.out.but k2 nPK); have HR6 := Lib.hid k1; have HB6 := Lib.hid (HB5.out.trans (k2.below.mono Kw)); have DL6 := Lib.hid (Nat.lt_of_lt_of_le DL5.out k2.below.size)
  clear k1 k2 HP5 HR5 HB5 DL5 C2_1
  go_wp2_with (fail)
  go_at_call 76
  refine (C2_2.out K D _ HR6.out (.inr DL6.out)).mono ?_
  rintro e y7 ⟨rfl, k1, k2⟩
  have HP7 := Lib.hid (HP6.out.but k2 nPK); have HR7 := Lib.hid k1; have HB7 := Lib.hid (HB6.out.trans (k2.below.mono Kw)); have DL7 := Lib.hid (Nat.lt_of_lt_of_le DL6.out k2.below.size)
  clear k1 k2 HP6 HR6 HB6 DL6 C2_2
  have oP := HP7.out
  have P0 := oP.at 0 _ rfl
  have Pf0 := oP.ok 0 (by simp)
  have P1 := oP.at 1 _ rfl
  have Pf1 := oP.ok 1 (by simp)
  have P2 := oP.at 2 _ rfl
  have Pf2 := oP.ok 2 (by simp)
  have P3 := oP.at 3 _ rfl
  have Pf3 := oP.ok 3 (by simp)
  have P4 := oP.at 4 _ rfl
  have Pf4 := oP.ok 4 (by simp)
  have P5 := oP.at 5 _ rfl
  have Pf5 := oP.ok 5 (by simp)
  have P6 := oP.at 6 _ rfl
  have Pf6 := oP.ok 6 (by simp)
  have P7 := oP.at 7 _ rfl
  have Pf7 := oP.ok 7 (by simp)
  have P8 := oP.at 8 _ rfl
  have Pf8 := oP.ok 8 (by simp)
  have P9 := oP.at 9 _ rfl
  have Pf9 := oP.ok 9 (by simp)
  have P10 := oP.at 10 _ rfl
  have Pf10 := oP.ok 10 (by simp)
  have P11 := oP.at 11 _ rfl
  have Pf11 := oP.ok 11 (by simp)
  have P12 := oP.at 12 _ rfl
  have Pf12 := oP.ok 12 (by simp)
  have Pl := oP.lt
  clear oP
  go_upto_region 5 with fail
  clear P0 Pf0 P1 Pf1 P2 Pf2 P3 Pf3 P4 Pf4 P5 Pf5 P6 Pf6 P7 Pf7 P8 Pf8 P9 Pf9 P10 Pf10 P11 Pf11 P12 Pf12 Pl
  rw [show (((((((((y7.setCell ⟨P, 4, none⟩ (.int .i64 x4)).setCell ⟨P, 5, none⟩ (.int .i64 x5)).setCell ⟨P, 6, none⟩ (.int .i64 x6)).setCell ⟨P, 7, none⟩ (.int .i64 x7)).setCell ⟨P, 8, none⟩ (.int .i64 x8)).setCell ⟨P, 9, none⟩ (.int .i64 x9)).setCell ⟨P, 10, none⟩ (.int .i64 x10)).setCell ⟨P, 11, none⟩ (.int .i64 x11)).setCell ⟨P, 12, none⟩ (.int .i64 x12)) = y7.setCells P 4 [.int .i64 x4, .int .i64 x5, .int .i64 x6, .int .i64 x7, .int .i64 x8, .int .i64 x9, .int .i64 x10, .int .i64 x11, .int .i64 x12] from rfl]
  have HPn : Hid (Own P ([.int .i64 x0, .int .i64 x1, .int .i64 x2, .int .i64 x3, .int .i64 x4, .int .i64 x5, .int .i64 x6, .int .i64 x7, .int .i64 x8, .int .i64 x9, .int .i64 x10, .int .i64 x11, .int .i64 x12]) (y7.setCells P 4 [.int .i64 x4, .int .i64 x5, .int .i64 x6, .int .i64 x7, .int .i64 x8, .int .i64 x9, .int .i64 x10, .int .i64 x11, .int .i64 x12])) := Lib.hid (show Own P (over _ 4 [.int .i64 x4, .int .i64 x5, .int .i64 x6, .int .i64 x7, .int .i64 x8, .int .i64 x9, .int .i64 x10, .int .i64 x11, .int .i64 x12]) _ from Own.part HP7.out (by simp))
  have HRn := Lib.hid (Rd.far HR7.out (But.store (K := P) (o := 4) (vs := [.int .i64 x4, .int .i64 x5, .int .i64 x6, .int .i64 x7, .int .i64 x8, .int .i64 x9, .int .i64 x10, .int .i64 x11, .int .i64 x12])) (Ne.symm nPK) nDP)
  have HBn : Hid (Below w.heap.size w (y7.setCells P 4 [.int .i64 x4, .int .i64 x5, .int .i64 x6, .int .i64 x7, .int .i64 x8, .int .i64 x9, .int .i64 x10, .int .i64 x11, .int .i64 x12])) := Lib.hid (Below.setCells HB7.out Pw _ _)
  have DLn : Hid (D < (y7.setCells P 4 [.int .i64 x4, .int .i64 x5, .int .i64 x6, .int .i64 x7, .int .i64 x8, .int .i64 x9, .int .i64 x10, .int .i64 x11, .int .i64 x12]).heap.size) := Lib.hid (by rw [size_setCells]; exact DL7.out)
  clear HP7 HR7 HB7 DL7
  generalize y7.setCells P 4 [.int .i64 x4, .int .i64 x5, .int .i64 x6, .int .i64 x7, .int .i64 x8, .int .i64 x9, .int .i64 x10, .int .i64 x11, .int .i64 x12] = y8 at *
  have HP8 := HPn; have HR8 := HRn; have HB8 := HBn; have DL8 := DLn
  clear HPn HRn HBn DLn
  refine wp_region_held_drew (S := fun w' => Below y8.heap.size y8 w') (by kernel_rfl) (Below.refl _ _).drew (fun hb0_ => ?_)
  refine wpAnyH_take (i := 0) (v := .agg ([.int .i64 x0, .int .i64 x1, .int .i64 x2, .int .i64 x3, .int .i64 x4, .int .i64 x5, .int .i64 x6, .int .i64 x7, .int .i64 x8, .int .i64 x9, .int .i64 x10, .int .i64 x11, .int .i64 x12]).toArray) rfl (by kernel_rfl) (by kernel_rfl) (by kernel_rfl) (fun _ _ _ h => h) (yieldsIf_load_mid (by rfl) 35 _ rfl P 0 rfl ([.int .i64 x0, .int .i64 x1, .int .i64 x2, .int .i64 x3, .int .i64 x4, .int .i64 x5, .int .i64 x6, .int .i64 x7, .int .i64 x8, .int .i64 x9, .int .i64 x10, .int .i64 x11, .int .i64 x12]) _ (fun w h => (HP8.out.later h).cell) Tryd.underlying35 rfl (by kernel_rfl)) (by assumption) ?_
  try simp only [Act.put, List.getElem_toArray, List.getElem_cons_zero, List.getElem_cons_succ, List.setIfInBounds_toArray, List.set_cons_zero, List.set_cons_succ]
  refine wpAnyH_take (i := 1) (v := ?_) rfl (by kernel_rfl) (by kernel_rfl) (by kernel_rfl) (fun _ _ _ h => h) (Or.inl ⟨by rfl, ?_⟩) (by assumption) ?_
  rotate_left
  · intro w' hS; go_simp; try (with_reducible rfl)
  try simp only [Act.put, List.getElem_toArray, List.getElem_cons_zero, List.getElem_cons_succ, List.setIfInBounds_toArray, List.set_cons_zero, List.set_cons_succ]
  refine wpAnyH_ready (rs := [2]) (by kernel_rfl) (by simp) ?_
  refine AllReadyH.cons rfl (fun K hK => ?_) AllReadyH.nil
  go_simp
  go_at_call 71
  refine (AEnd_any (HR8.out.later hb0_)).mono ?_
  rintro e u1 ⟨rfl, h1⟩
  have bu1 := Below.go hb0_ h1
  clear h1
  refine hK.out _ _ bu1 (fun _ => ?_)
  clear hK K
  try simp only [Act.put, List.getElem_toArray, List.getElem_cons_zero, List.getElem_cons_succ, List.setIfInBounds_toArray, List.set_cons_zero, List.set_cons_succ]
  refine wpAnyH_ready (rs := [3]) (by kernel_rfl) (by simp) ?_
  refine AllReadyH.cons rfl (fun K_ hK => ?_) AllReadyH.nil
  refine step_store_self (by simp [Region.wanted]) 35 _ _ rfl P #[.int .i64 x0, .int .i64 x1, .int .i64 x2, .int .i64 x3, .int .i64 x4, .int .i64 x5, .int .i64 x6, .int .i64 x7, .int .i64 x8, .int .i64 x9, .int .i64 x10, .int .i64 x11, .int .i64 x12] rfl rfl (HP8.out.later bu1) (by kernel_rfl) (by simp [Value.oneCell']) ?_
  refine hK.out _ _ bu1 (fun _ => ?_)
  clear hK K_
  try simp only [Act.put, List.getElem_toArray, List.getElem_cons_zero, List.getElem_cons_succ, List.setIfInBounds_toArray, List.set_cons_zero, List.set_cons_succ]
  refine wpAnyH_take (i := 4) (v := ?_) rfl (by kernel_rfl) (by kernel_rfl) (by kernel_rfl) (fun _ _ _ h => h) (Or.inl ⟨by rfl, ?_⟩) (by assumption) ?_
  rotate_left
  · intro w' hS; go_simp; try (with_reducible rfl)
  try simp only [Act.put, List.getElem_toArray, List.getElem_cons_zero, List.getElem_cons_succ, List.setIfInBounds_toArray, List.set_cons_zero, List.set_cons_succ]
  refine wpAnyH_done (by kernel_rfl) ?_ _
  have HPz := HP8.out.later bu1
  have HBz := Below.go HB8.out bu1
  go_wp2_with (fail)
  have hL := run_loadVar_mid (P := Tryd.prog) _ P 0 35 ([.int .i64 x0, .int .i64 x1, .int .i64 x2, .int .i64 x3, .int .i64 x4, .int .i64 x5, .int .i64 x6, .int .i64 x7, .int .i64 x8, .int .i64 x9, .int .i64 x10, .int .i64 x11, .int .i64 x12]) _ HPz.cell Tryd.underlying35 rfl (by kernel_rfl)
  exact bodyPost_ret (v := .tuple #[.agg ([.int .i64 x0, .int .i64 x1, .int .i64 x2, .int .i64 x3, .int .i64 x4, .int .i64 x5, .int .i64 x6, .int .i64 x7, .int .i64 x8, .int .i64 x9, .int .i64 x10, .int .i64 x11, .int .i64 x12]).toArray, .int .i64 (endE N 31 (erN N 31))]) (res_two Tryd.results59 rfl hL rfl) rfl ⟨rfl, HBz⟩
end Go.Proofs.YtokfhhngnpbdkaaDoor
