/- asset: color, point, three. -/
import Derived.Test.YtokfhhngnpbdkaaDoorII
import Derived.Test.YtokfhhngnpbdkaaDoorMS2
import Derived.Lib.Hide
import Derived.LoopN
import Derived.LoopTactic
import Derived.Deep.Onto
import Derived.Deep.RegionHeld3
import Derived.Deep.QuietTactic
import Derived.BigQuiet
import Derived.Great.BuildSlice
import Derived.StillTailTactics
import Derived.Lib.SliceRun
namespace Go.Proofs.YtokfhhngnpbdkaaDoor
set_option linter.unusedVariables false
set_option maxRecDepth 2000
set_option linter.unusedSimpArgs false
open Go.RowKit
theorem pw_le4 {W : Nat} (h : W ≤ 4) : pw W ≤ 4294967296 := by
  have v := pw_vals
  match W, h with
  | 0, _ => rw [pw_zero]; decide
  | 1, _ => omega
  | 2, _ => omega
  | 3, _ => omega
  | 4, _ => omega
theorem Rd.but {w w' : World} {K D : Nat} {F : Nat → Int} {N at_ : Nat} {er : Int} {P : Nat} (h : Rd w K D F N at_ er) (hb : But P w w') (hK : K ≠ P) (hD : D ≠ P) : Rd w' K D F N at_ er := by
  obtain ⟨p, c, h1, h2, h3, h4⟩ := h.ex
  refine ⟨p, c, h1.but hb hK, ?_, h3, h4⟩
  rcases h2 with h0 | ⟨o, e, h5, h6⟩
  · exact .inl h0
  · exact .inr ⟨o, e, h5, h6.but hb hD⟩
set_option maxHeartbeats 4000000 in
theorem color_any {K D N t : Nat} {F : Nat → Int} {w : World} (W : Nat) (h1 : 1 ≤ W) (h4 : W ≤ 4) (hF : ∀ j, j < N → inB (F j)) (h : Rd w K D F N (t) (erN N (t))) (hD : D = K ∨ D < w.heap.size) :
    Calls Tryd.prog 75 #[.pointer (some ⟨K, 0, none⟩), .int .i64 (W : Int)] w fun e w' => e = .returned (.agg #[.int .i64 (valN F N t W), .int .i64 (valN F N (t + W) W), .int .i64 (valN F N (t + W + W) W)]) ∧ Rd w' K D F N (t + W + W + W) (erN N (t + W + W + W)) ∧ But K w w' := by
  have Sl := h.lt
  have HR0 := Lib.hid h
  have C0 := Lib.hid (fun w h => Num_next (K := K) (D := D) (N := N) (t := t) (F := F) (w := w) W (t + W) (W : Int) rfl rfl h1 (by omega) hF h)
  have C1 := Lib.hid (fun w h => Num_next (K := K) (D := D) (N := N) (t := t + W) (F := F) (w := w) W (t + W + W) (W : Int) rfl rfl h1 (by omega) hF h)
  have C2 := Lib.hid (fun w h => Num_next (K := K) (D := D) (N := N) (t := t + W + W) (F := F) (w := w) W (t + W + W + W) (W : Int) rfl rfl h1 (by omega) hF h)
  have w0 : IntKind.i64.wrap (valN F N t W) = valN F N t W := IntWalk.i64_in _ (by
    have a := in_valN hF (t) W
    have b := pw_le4 h4
    omega)
  have w1 : IntKind.i64.wrap (valN F N (t + W) W) = valN F N (t + W) W := IntWalk.i64_in _ (by
    have a := in_valN hF (t + W) W
    have b := pw_le4 h4
    omega)
  have w2 : IntKind.i64.wrap (valN F N (t + W + W) W) = valN F N (t + W + W) W := IntWalk.i64_in _ (by
    have a := in_valN hF (t + W + W) W
    have b := pw_le4 h4
    omega)
  clear h hF
  generalize valN F N t W = x at *
  generalize valN F N (t + W) W = y at *
  generalize valN F N (t + W + W) W = z at *
  go_enter Tryd.func75, Tryd.ntmps75
  go_upto_region 1 with fail
  obtain ⟨W0, hW⟩ : ∃ W0, W0 = (w.alloc (.cells #[.int .i64 0, .int .i64 0, .int .i64 0] 29)) := ⟨_, rfl⟩
  have hB0 : Below w.heap.size w W0 := hW ▸ (Below.al (Below.refl _ _))
  have HP : Hid (Own w.heap.size ([.int .i64 0, .int .i64 0, .int .i64 0]) W0) := Lib.hid (hW ▸ (show Own w.heap.size ([.int .i64 0, .int .i64 0, .int .i64 0]) (w.alloc (.cells #[.int .i64 0, .int .i64 0, .int .i64 0] 29)) from Own.newAt (by simp)))
  rw [← hW]
  clear hW
  obtain ⟨P, eP⟩ : ∃ X, X = w.heap.size := ⟨_, rfl⟩
  rw [← eP] at HP ⊢
  have Pw : w.heap.size ≤ P := by omega
  clear eP
  have nPS : P ≠ K := by omega
  have nDP : D ≠ P := by omega
  have HR := Lib.hid (HR0.out.later hB0)
  have HB := Lib.hid (But.of hB0 Sl)
  clear HR0 hB0 hD
  go_wp2_with (fail)
  go_at_call 72
  refine (C0.out _ HR.out).mono ?_
  rintro e y1 ⟨rfl, k1, k2⟩
  have HP_ := Lib.hid (HP.out.but k2 nPS); have HB_ := Lib.hid (HB.out.trans k2); have HR_ := Lib.hid k1
  clear k1 k2 HP HB HR C0
  have HP := HP_; have HB := HB_; have HR := HR_
  clear HP_ HB_ HR_
  go_wp2_with (fail)
  go_at_call 72
  refine (C1.out _ HR.out).mono ?_
  rintro e y2 ⟨rfl, k1, k2⟩
  have HP_ := Lib.hid (HP.out.but k2 nPS); have HB_ := Lib.hid (HB.out.trans k2); have HR_ := Lib.hid k1
  clear k1 k2 HP HB HR C1
  have HP := HP_; have HB := HB_; have HR := HR_
  clear HP_ HB_ HR_
  go_wp2_with (fail)
  go_at_call 72
  refine (C2.out _ HR.out).mono ?_
  rintro e y3 ⟨rfl, k1, k2⟩
  have HP_ := Lib.hid (HP.out.but k2 nPS); have HB_ := Lib.hid (HB.out.trans k2); have HR_ := Lib.hid k1
  clear k1 k2 HP HB HR C2
  have HP := HP_; have HB := HB_; have HR := HR_
  clear HP_ HB_ HR_
  have oP := HP.out
  have P0 := oP.at 0 _ rfl
  have Pf0 := oP.ok 0 (by simp)
  have P1 := oP.at 1 _ rfl
  have Pf1 := oP.ok 1 (by simp)
  have P2 := oP.at 2 _ rfl
  have Pf2 := oP.ok 2 (by simp)
  have Pl := oP.lt
  clear oP
  go_wp2_with (fail)
  change bodyPost _ _ _ _ _ (y3.setCells P 0 [.int .i64 x, .int .i64 y, .int .i64 z])
  have HP9 : Own P [.int .i64 x, .int .i64 y, .int .i64 z] (y3.setCells P 0 [.int .i64 x, .int .i64 y, .int .i64 z]) := Own.store HP.out rfl
  have HB9 : But K w (y3.setCells P 0 [.int .i64 x, .int .i64 y, .int .i64 z]) := HB.out.news Pw Sl
  have hbm : But P y3 (y3.setCells P 0 [.int .i64 x, .int .i64 y, .int .i64 z]) := But.store
  have HR9 := HR.out.but hbm (Ne.symm nPS) nDP
  have hL := run_loadVar_mid (P := Tryd.prog) _ P 0 29 [.int .i64 x, .int .i64 y, .int .i64 z] _ HP9.cell Tryd.underlying29 rfl (by kernel_rfl)
  exact bodyPost_ret (v := .agg ([.int .i64 x, .int .i64 y, .int .i64 z] : List Value).toArray) (res_cell Tryd.results75 rfl hL) rfl ⟨rfl, HR9, HB9⟩
set_option maxHeartbeats 4000000 in
theorem point_any {K D N t : Nat} {F : Nat → Int} {w : World} (hF : ∀ j, j < N → inB (F j)) (h : Rd w K D F N (t) (erN N (t))) (hD : D = K ∨ D < w.heap.size) :
    Calls Tryd.prog 76 #[.pointer (some ⟨K, 0, none⟩)] w fun e w' => e = .returned (.agg #[.int .i64 (sgnN F N t), .int .i64 (sgnN F N (t + 2)), .int .i64 (sgnN F N (t + 4))]) ∧ Rd w' K D F N (t + 6) (erN N (t + 6)) ∧ But K w w' := by
  have Sl := h.lt
  have HR0 := Lib.hid h
  have C0 := Lib.hid (fun w h => Int_next (K := K) (D := D) (N := N) (t := t) (F := F) (w := w) (t + 2) rfl hF h)
  have C1 := Lib.hid (fun w h => Int_next (K := K) (D := D) (N := N) (t := t + 2) (F := F) (w := w) (t + 4) rfl hF h)
  have C2 := Lib.hid (fun w h => Int_next (K := K) (D := D) (N := N) (t := t + 4) (F := F) (w := w) (t + 6) rfl hF h)
  clear h hF
  generalize sgnN F N t = x at *
  generalize sgnN F N (t + 2) = y at *
  generalize sgnN F N (t + 4) = z at *
  go_enter Tryd.func76, Tryd.ntmps76
  go_upto_region 1 with fail
  obtain ⟨W0, hW⟩ : ∃ W0, W0 = (w.alloc (.cells #[.int .i64 0, .int .i64 0, .int .i64 0] 33)) := ⟨_, rfl⟩
  have hB0 : Below w.heap.size w W0 := hW ▸ (Below.al (Below.refl _ _))
  have HP : Hid (Own w.heap.size ([.int .i64 0, .int .i64 0, .int .i64 0]) W0) := Lib.hid (hW ▸ (show Own w.heap.size ([.int .i64 0, .int .i64 0, .int .i64 0]) (w.alloc (.cells #[.int .i64 0, .int .i64 0, .int .i64 0] 33)) from Own.newAt (by simp)))
  rw [← hW]
  clear hW
  obtain ⟨P, eP⟩ : ∃ X, X = w.heap.size := ⟨_, rfl⟩
  rw [← eP] at HP ⊢
  have Pw : w.heap.size ≤ P := by omega
  clear eP
  have nPS : P ≠ K := by omega
  have nDP : D ≠ P := by omega
  have HR := Lib.hid (HR0.out.later hB0)
  have HB := Lib.hid (But.of hB0 Sl)
  clear HR0 hB0 hD
  go_wp2_with (fail)
  go_at_call 86
  refine (C0.out _ HR.out).mono ?_
  rintro e y1 ⟨rfl, k1, k2⟩
  have HP_ := Lib.hid (HP.out.but k2 nPS); have HB_ := Lib.hid (HB.out.trans k2); have HR_ := Lib.hid k1
  clear k1 k2 HP HB HR C0
  have HP := HP_; have HB := HB_; have HR := HR_
  clear HP_ HB_ HR_
  go_wp2_with (fail)
  go_at_call 86
  refine (C1.out _ HR.out).mono ?_
  rintro e y2 ⟨rfl, k1, k2⟩
  have HP_ := Lib.hid (HP.out.but k2 nPS); have HB_ := Lib.hid (HB.out.trans k2); have HR_ := Lib.hid k1
  clear k1 k2 HP HB HR C1
  have HP := HP_; have HB := HB_; have HR := HR_
  clear HP_ HB_ HR_
  go_wp2_with (fail)
  go_at_call 86
  refine (C2.out _ HR.out).mono ?_
  rintro e y3 ⟨rfl, k1, k2⟩
  have HP_ := Lib.hid (HP.out.but k2 nPS); have HB_ := Lib.hid (HB.out.trans k2); have HR_ := Lib.hid k1
  clear k1 k2 HP HB HR C2
  have HP := HP_; have HB := HB_; have HR := HR_
  clear HP_ HB_ HR_
  have oP := HP.out
  have P0 := oP.at 0 _ rfl
  have Pf0 := oP.ok 0 (by simp)
  have P1 := oP.at 1 _ rfl
  have Pf1 := oP.ok 1 (by simp)
  have P2 := oP.at 2 _ rfl
  have Pf2 := oP.ok 2 (by simp)
  have Pl := oP.lt
  clear oP
  go_wp2_with (fail)
  change bodyPost _ _ _ _ _ (y3.setCells P 0 [.int .i64 x, .int .i64 y, .int .i64 z])
  have HP9 : Own P [.int .i64 x, .int .i64 y, .int .i64 z] (y3.setCells P 0 [.int .i64 x, .int .i64 y, .int .i64 z]) := Own.store HP.out rfl
  have HB9 : But K w (y3.setCells P 0 [.int .i64 x, .int .i64 y, .int .i64 z]) := HB.out.news Pw Sl
  have hbm : But P y3 (y3.setCells P 0 [.int .i64 x, .int .i64 y, .int .i64 z]) := But.store
  have HR9 := HR.out.but hbm (Ne.symm nPS) nDP
  have hL := run_loadVar_mid (P := Tryd.prog) _ P 0 33 [.int .i64 x, .int .i64 y, .int .i64 z] _ HP9.cell Tryd.underlying33 rfl (by kernel_rfl)
  exact bodyPost_ret (v := .agg ([.int .i64 x, .int .i64 y, .int .i64 z] : List Value).toArray) (res_cell Tryd.results76 rfl hL) rfl ⟨rfl, HR9, HB9⟩
set_option maxHeartbeats 4000000 in
theorem three_any {K D N t : Nat} {F : Nat → Int} {w : World} (W : Nat) (h1 : 1 ≤ W) (h4 : W ≤ 4) (hF : ∀ j, j < N → inB (F j)) (h : RRn w K D F N (t)) (hD : D = K ∨ D < w.heap.size) :
    Calls Tryd.prog 40 #[.pointer (some ⟨K, 0, none⟩), .int .i64 (W : Int)] w fun e w' => e = .returned (.agg #[.int .i64 (valN F N t W), .int .i64 (valN F N (t + W) W), .int .i64 (valN F N (t + W + W) W)]) ∧ RRn w' K D F N (t + W + W + W) ∧ But K w w' := by
  have Sl := h.lt
  have HR0 := Lib.hid h
  have C0 := Lib.hid (fun w h => RNum_nx (S := K) (D := D) (N := N) (t := t) (F := F) (w := w) W (t + W) (W : Int) rfl rfl h1 (by omega) hF h)
  have C1 := Lib.hid (fun w h => RNum_nx (S := K) (D := D) (N := N) (t := t + W) (F := F) (w := w) W (t + W + W) (W : Int) rfl rfl h1 (by omega) hF h)
  have C2 := Lib.hid (fun w h => RNum_nx (S := K) (D := D) (N := N) (t := t + W + W) (F := F) (w := w) W (t + W + W + W) (W : Int) rfl rfl h1 (by omega) hF h)
  have w0 : IntKind.i64.wrap (valN F N t W) = valN F N t W := IntWalk.i64_in _ (by
    have a := in_valN hF (t) W
    have b := pw_le4 h4
    omega)
  have w1 : IntKind.i64.wrap (valN F N (t + W) W) = valN F N (t + W) W := IntWalk.i64_in _ (by
    have a := in_valN hF (t + W) W
    have b := pw_le4 h4
    omega)
  have w2 : IntKind.i64.wrap (valN F N (t + W + W) W) = valN F N (t + W + W) W := IntWalk.i64_in _ (by
    have a := in_valN hF (t + W + W) W
    have b := pw_le4 h4
    omega)
  clear h hF
  generalize valN F N t W = x at *
  generalize valN F N (t + W) W = y at *
  generalize valN F N (t + W + W) W = z at *
  go_enter Tryd.func40, Tryd.ntmps40
  go_upto_region 1 with fail
  obtain ⟨W0, hW⟩ : ∃ W0, W0 = (w.alloc (.cells #[.int .i64 0, .int .i64 0, .int .i64 0] 29)) := ⟨_, rfl⟩
  have hB0 : Below w.heap.size w W0 := hW ▸ (Below.al (Below.refl _ _))
  have HP : Hid (Own w.heap.size ([.int .i64 0, .int .i64 0, .int .i64 0]) W0) := Lib.hid (hW ▸ (show Own w.heap.size ([.int .i64 0, .int .i64 0, .int .i64 0]) (w.alloc (.cells #[.int .i64 0, .int .i64 0, .int .i64 0] 29)) from Own.newAt (by simp)))
  rw [← hW]
  clear hW
  obtain ⟨P, eP⟩ : ∃ X, X = w.heap.size := ⟨_, rfl⟩
  rw [← eP] at HP ⊢
  have Pw : w.heap.size ≤ P := by omega
  clear eP
  have nPS : P ≠ K := by omega
  have nDP : D ≠ P := by omega
  have HR := Lib.hid (HR0.out.later hB0)
  have HB := Lib.hid (But.of hB0 Sl)
  clear HR0 hB0 hD
  go_wp2_with (fail)
  go_at_call 39
  refine (C0.out _ HR.out).mono ?_
  rintro e y1 ⟨rfl, k1, k2⟩
  have HP_ := Lib.hid (HP.out.but k2 nPS); have HB_ := Lib.hid (HB.out.trans k2); have HR_ := Lib.hid k1
  clear k1 k2 HP HB HR C0
  have HP := HP_; have HB := HB_; have HR := HR_
  clear HP_ HB_ HR_
  go_wp2_with (fail)
  go_at_call 39
  refine (C1.out _ HR.out).mono ?_
  rintro e y2 ⟨rfl, k1, k2⟩
  have HP_ := Lib.hid (HP.out.but k2 nPS); have HB_ := Lib.hid (HB.out.trans k2); have HR_ := Lib.hid k1
  clear k1 k2 HP HB HR C1
  have HP := HP_; have HB := HB_; have HR := HR_
  clear HP_ HB_ HR_
  go_wp2_with (fail)
  go_at_call 39
  refine (C2.out _ HR.out).mono ?_
  rintro e y3 ⟨rfl, k1, k2⟩
  have HP_ := Lib.hid (HP.out.but k2 nPS); have HB_ := Lib.hid (HB.out.trans k2); have HR_ := Lib.hid k1
  clear k1 k2 HP HB HR C2
  have HP := HP_; have HB := HB_; have HR := HR_
  clear HP_ HB_ HR_
  have oP := HP.out
  have P0 := oP.at 0 _ rfl
  have Pf0 := oP.ok 0 (by simp)
  have P1 := oP.at 1 _ rfl
  have Pf1 := oP.ok 1 (by simp)
  have P2 := oP.at 2 _ rfl
  have Pf2 := oP.ok 2 (by simp)
  have Pl := oP.lt
  clear oP
  go_wp2_with (fail)
  change bodyPost _ _ _ _ _ (y3.setCells P 0 [.int .i64 x, .int .i64 y, .int .i64 z])
  have HP9 : Own P [.int .i64 x, .int .i64 y, .int .i64 z] (y3.setCells P 0 [.int .i64 x, .int .i64 y, .int .i64 z]) := Own.store HP.out rfl
  have HB9 : But K w (y3.setCells P 0 [.int .i64 x, .int .i64 y, .int .i64 z]) := HB.out.news Pw Sl
  have hbm : But P y3 (y3.setCells P 0 [.int .i64 x, .int .i64 y, .int .i64 z]) := But.store
  have HR9 := HR.out.far hbm (Ne.symm nPS) nDP
  have hL := run_loadVar_mid (P := Tryd.prog) _ P 0 29 [.int .i64 x, .int .i64 y, .int .i64 z] _ HP9.cell Tryd.underlying29 rfl (by kernel_rfl)
  exact bodyPost_ret (v := .agg ([.int .i64 x, .int .i64 y, .int .i64 z] : List Value).toArray) (res_cell Tryd.results40 rfl hL) rfl ⟨rfl, HR9, HB9⟩
end Go.Proofs.YtokfhhngnpbdkaaDoor
