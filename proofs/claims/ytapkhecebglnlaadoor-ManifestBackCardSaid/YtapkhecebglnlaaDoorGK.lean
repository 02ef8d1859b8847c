/- manifest: a decoder's manifest. -/
import Derived.Test.YtapkhecebglnlaaDoorGJ
import Derived.Test.YtapkhecebglnlaaDoorGD
import Derived.Lib.Hide
import Derived.LoopN
import Derived.LoopTactic
import Derived.Deep.Onto
import Derived.Deep.RegionHeld3
import Derived.Deep.QuietTactic
import Derived.BigQuiet
namespace Go.Proofs.YtapkhecebglnlaaDoor
set_option linter.unusedVariables false
set_option maxRecDepth 2000
set_option linter.unusedSimpArgs false
open Go.RowKit
set_option maxHeartbeats 16000000 in
theorem Man_any (K D N : Nat) (F : Nat → Int) (hF : ∀ j, j < N → inB (F j)) (w : World) (h : Rd w K D F N 0 0) (hD : D < w.heap.size) :
    Calls Tryd.prog 26 #[.agg #[.pointer (some ⟨K, 0, none⟩)]] w fun e w' => e = .returned (.agg #[.int .u64 (valN F N 0 8), .int .i64 (valN F N 8 1), .int .u32 (valN F N 9 4), .int .u8 (mskN F N 0), .int .u8 (mskN F N 1), .int .u8 (mskN F N 2), .int .u8 (mskN F N 3), .int .u8 (mskN F N 4), .int .u8 (mskN F N 5), .int .u8 (mskN F N 6), .int .u8 (mskN F N 7), .int .u32 (valN F N 21 4), .int .u32 (valN F N 25 4), .int .i64 (valN F N 29 4), .int .i64 (valN F N 33 2)]) ∧ Rd w' K D F N 35 (erN N 35) ∧ But K w w' := by
  have h0 : Rd w K D F N 0 (erN N 0) := by rw [show erN N 0 = 0 from if_pos (Nat.zero_le _)]; exact h
  have HR := Lib.hid h0
  have p8 := pw_vals.2.2.2.2.2.2.2; have p1 := pw_vals.1; have p4 := pw_vals.2.2.2.1; have p2 := pw_vals.2.1
  have b1 := in_valN hF 8 1; have b2 := in_valN hF 9 4; have b3 := Lib.hid (fun j => in_valN hF (13 + j) 1); have b4 := in_valN hF 21 4; have b5 := in_valN hF 25 4; have b6 := in_valN hF 29 4; have b7 := in_valN hF 33 2
  rw [p1] at b1
  rw [p4] at b2 b4 b5 b6
  rw [p2] at b7
  have Sx0 := Lib.hid (fun w h => Num_next (K := K) (D := D) (N := N) (t := 0) (F := F) (w := w) 8 8 8 rfl rfl (by decide) (by decide) hF h)
  have Sx1 := Lib.hid (fun w h => Num_next (K := K) (D := D) (N := N) (t := 8) (F := F) (w := w) 1 9 1 rfl rfl (by decide) (by decide) hF h)
  have Sx2 := Lib.hid (fun w h => Num_next (K := K) (D := D) (N := N) (t := 9) (F := F) (w := w) 4 13 4 rfl rfl (by decide) (by decide) hF h)
  have Sx4 := Lib.hid (fun w h => Num_next (K := K) (D := D) (N := N) (t := 21) (F := F) (w := w) 4 25 4 rfl rfl (by decide) (by decide) hF h)
  have Sx5 := Lib.hid (fun w h => Num_next (K := K) (D := D) (N := N) (t := 25) (F := F) (w := w) 4 29 4 rfl rfl (by decide) (by decide) hF h)
  have Sx6 := Lib.hid (fun w h => Num_next (K := K) (D := D) (N := N) (t := 29) (F := F) (w := w) 4 33 4 rfl rfl (by decide) (by decide) hF h)
  have Sx7 := Lib.hid (fun w h => Num_next (K := K) (D := D) (N := N) (t := 33) (F := F) (w := w) 2 35 2 rfl rfl (by decide) (by decide) hF h)
  have SG : Hid (∀ k w, Rd w K D F N (13 + k) (erN N (13 + k)) → Calls Tryd.prog 33 #[.pointer (some ⟨K, 0, none⟩), .int .i64 1] w fun e w' => e = .returned (.int .u64 (mskN F N k)) ∧ Rd w' K D F N (13 + (k + 1)) (erN N (13 + (k + 1))) ∧ But K w w') := Lib.hid (fun k w h => Num_next (K := K) (D := D) (N := N) (t := 13 + k) (F := F) (w := w) 1 (13 + (k + 1)) 1 rfl (by omega) (by decide) (by decide) hF h)
  have RG := Lib.hid (fun j => show IntKind.u8.wrap (mskN F N j) = mskN F N j by have := b3.out j; rw [p1] at this; rw [IntKind.wrap_u8']; unfold mskN; omega)
  have MO := Lib.hid (fun x0 x1 x2 k hk => msk_over x0 x1 x2 (mskN F N) 0 0 0 0 k hk)
  have Kl := h.lt
  clear h h0 p8 p1 p4 p2 b3
  generalize valN F N 0 8 = x0 at *
  generalize valN F N 8 1 = x1 at *
  generalize valN F N 9 4 = x2 at *
  generalize valN F N 21 4 = x4 at *
  generalize valN F N 25 4 = x5 at *
  generalize valN F N 29 4 = x6 at *
  generalize valN F N 33 2 = x7 at *
  have r1 : IntKind.i64.wrap x1 = x1 := IntWalk.i64_in _ (by omega)
  have r2 : IntKind.u32.wrap x2 = x2 := IntWalk.u32_in _ (by omega)
  have r4 : IntKind.u32.wrap x4 = x4 := IntWalk.u32_in _ (by omega)
  have r5 : IntKind.u32.wrap x5 = x5 := IntWalk.u32_in _ (by omega)
  have r6 : IntKind.i64.wrap x6 = x6 := IntWalk.i64_in _ (by omega)
  have r7 : IntKind.i64.wrap x7 = x7 := IntWalk.i64_in _ (by omega)
  generalize mskN F N = G at *
  clear b1 b2 b4 b5 b6 b7
  go_enter Tryd.func26, Tryd.ntmps26
  go_upto_region 1 with fail
  obtain ⟨W0, hW⟩ : ∃ W0, W0 = ((w.alloc (.cells #[.pointer (some ⟨K, 0, none⟩)] 56)).alloc (.cells #[.int .u64 0, .int .i64 0, .int .u32 0, .int .u8 0, .int .u8 0, .int .u8 0, .int .u8 0, .int .u8 0, .int .u8 0, .int .u8 0, .int .u8 0, .int .u32 0, .int .u32 0, .int .i64 0, .int .i64 0] 26)) := ⟨_, rfl⟩
  have hB0 : Below w.heap.size w W0 := hW ▸ (Below.al (Below.al (Below.refl _ _)))
  have HQ : Hid (Own w.heap.size ([.pointer (some ⟨K, 0, none⟩)]) W0) := Lib.hid (hW ▸ (show Own w.heap.size ([.pointer (some ⟨K, 0, none⟩)]) (w.alloc (.cells #[.pointer (some ⟨K, 0, none⟩)] 56)) from Own.newAt (by simp)).alloc)
  have HM : Hid (Own (w.heap.size + 1) ([.int .u64 0, .int .i64 0, .int .u32 0, .int .u8 0, .int .u8 0, .int .u8 0, .int .u8 0, .int .u8 0, .int .u8 0, .int .u8 0, .int .u8 0, .int .u32 0, .int .u32 0, .int .i64 0, .int .i64 0]) W0) := Lib.hid (hW ▸ (show Own (w.heap.size + 1) ([.int .u64 0, .int .i64 0, .int .u32 0, .int .u8 0, .int .u8 0, .int .u8 0, .int .u8 0, .int .u8 0, .int .u8 0, .int .u8 0, .int .u8 0, .int .u32 0, .int .u32 0, .int .i64 0, .int .i64 0]) ((w.alloc (.cells #[.pointer (some ⟨K, 0, none⟩)] 56)).alloc (.cells #[.int .u64 0, .int .i64 0, .int .u32 0, .int .u8 0, .int .u8 0, .int .u8 0, .int .u8 0, .int .u8 0, .int .u8 0, .int .u8 0, .int .u8 0, .int .u32 0, .int .u32 0, .int .i64 0, .int .i64 0] 26)) from Own.newAt (by simp)))
  rw [← hW]
  clear hW
  obtain ⟨M, eM⟩ : ∃ X, X = (w.heap.size + 1) := ⟨_, rfl⟩
  rw [← eM] at HM ⊢
  have Mw : w.heap.size ≤ M := by omega
  obtain ⟨Q, eQ⟩ : ∃ X, X = w.heap.size := ⟨_, rfl⟩
  rw [← eQ] at HQ ⊢
  have Qw : w.heap.size ≤ Q := by omega
  have nQM : Q ≠ M := by omega
  have nMQ : M ≠ Q := by omega
  clear eQ eM
  have nQK : Q ≠ K := by omega
  have nMK : M ≠ K := by omega
  have nKM : K ≠ M := by omega
  have nDM : D ≠ M := by omega
  have HR0 := Lib.hid (HR.out.later hB0)
  have HB0 := Lib.hid (But.of hB0 Kl)
  have MW := Lib.hid Mw; have KL := Lib.hid Kl
  clear HR hB0 hD
  have Q0 := HQ.out.at 0 _ rfl
  have Ql := HQ.out.lt
  go_wp2_with (fail)
  go_at_call 33
  refine (Sx0.out _ HR0.out).mono ?_
  rintro e y1 ⟨rfl, h1, h2⟩
  have HR1 := Lib.hid h1
  have HM1 := Lib.hid (HM.out.but h2 nMK)
  have HQ1 := Lib.hid (HQ.out.but h2 nQK)
  have HB1 := Lib.hid (HB0.out.trans h2)
  have Mf := HM1.out.ok 0 (by simp)
  have Mc := HM1.out.at 0 _ rfl
  have Ml := HM1.out.lt
  clear h1 h2 HR0 HB0 HM HQ Q0 Ql
  go_upto_region 2 with fail
  rw [show y1.setCell ⟨M, 0, none⟩ (.int .u64 x0) = y1.setCells M 0 [.int .u64 x0] from rfl]
  have HM : Hid (Own M [.int .u64 x0, .int .i64 0, .int .u32 0, .int .u8 0, .int .u8 0, .int .u8 0, .int .u8 0, .int .u8 0, .int .u8 0, .int .u8 0, .int .u8 0, .int .u32 0, .int .u32 0, .int .i64 0, .int .i64 0] (y1.setCells M 0 [.int .u64 x0])) := Lib.hid (show Own M (over _ 0 [.int .u64 x0]) _ from Own.part HM1.out (by simp))
  have hbm : But M y1 (y1.setCells M 0 [.int .u64 x0]) := But.store
  have HQ := Lib.hid (HQ1.out.but hbm nQM)
  have HR2 := Lib.hid (HR1.out.far hbm nKM nDM)
  have HB2 := Lib.hid (HB1.out.news (o := 0) (vs := [.int .u64 x0]) MW.out KL.out)
  clear hbm HR1 HB1 HM1 HQ1 Mf Ml Mc
  generalize y1.setCells M 0 [.int .u64 x0] = W1 at *
  have Q0 := HQ.out.at 0 _ rfl
  have Ql := HQ.out.lt
  go_wp2_with (fail)
  go_at_call 33
  refine (Sx1.out _ HR2.out).mono ?_
  rintro e y1 ⟨rfl, h1, h2⟩
  have HR3 := Lib.hid h1
  have HM1 := Lib.hid (HM.out.but h2 nMK)
  have HQ1 := Lib.hid (HQ.out.but h2 nQK)
  have HB3 := Lib.hid (HB2.out.trans h2)
  have Mf := HM1.out.ok 1 (by simp)
  have Mc := HM1.out.at 1 _ rfl
  have Ml := HM1.out.lt
  clear h1 h2 HR2 HB2 HM HQ Q0 Ql
  go_upto_region 3 with fail
  rw [show y1.setCell ⟨M, 1, none⟩ (.int .i64 x1) = y1.setCells M 1 [.int .i64 x1] from rfl]
  have HM : Hid (Own M [.int .u64 x0, .int .i64 x1, .int .u32 0, .int .u8 0, .int .u8 0, .int .u8 0, .int .u8 0, .int .u8 0, .int .u8 0, .int .u8 0, .int .u8 0, .int .u32 0, .int .u32 0, .int .i64 0, .int .i64 0] (y1.setCells M 1 [.int .i64 x1])) := Lib.hid (show Own M (over _ 1 [.int .i64 x1]) _ from Own.part HM1.out (by simp))
  have hbm : But M y1 (y1.setCells M 1 [.int .i64 x1]) := But.store
  have HQ := Lib.hid (HQ1.out.but hbm nQM)
  have HR4 := Lib.hid (HR3.out.far hbm nKM nDM)
  have HB4 := Lib.hid (HB3.out.news (o := 1) (vs := [.int .i64 x1]) MW.out KL.out)
  clear hbm HR3 HB3 HM1 HQ1 Mf Ml Mc
  generalize y1.setCells M 1 [.int .i64 x1] = W2 at *
  have Q0 := HQ.out.at 0 _ rfl
  have Ql := HQ.out.lt
  go_wp2_with (fail)
  go_at_call 33
  refine (Sx2.out _ HR4.out).mono ?_
  rintro e y1 ⟨rfl, h1, h2⟩
  have HR5 := Lib.hid h1
  have HM1 := Lib.hid (HM.out.but h2 nMK)
  have HQ1 := Lib.hid (HQ.out.but h2 nQK)
  have HB5 := Lib.hid (HB4.out.trans h2)
  have Mf := HM1.out.ok 2 (by simp)
  have Mc := HM1.out.at 2 _ rfl
  have Ml := HM1.out.lt
  clear h1 h2 HR4 HB4 HM HQ Q0 Ql
  go_upto_region 4 with fail
  rw [show y1.setCell ⟨M, 2, none⟩ (.int .u32 x2) = y1.setCells M 2 [.int .u32 x2] from rfl]
  have HM : Hid (Own M [.int .u64 x0, .int .i64 x1, .int .u32 x2, .int .u8 0, .int .u8 0, .int .u8 0, .int .u8 0, .int .u8 0, .int .u8 0, .int .u8 0, .int .u8 0, .int .u32 0, .int .u32 0, .int .i64 0, .int .i64 0] (y1.setCells M 2 [.int .u32 x2])) := Lib.hid (show Own M (over _ 2 [.int .u32 x2]) _ from Own.part HM1.out (by simp))
  have hbm : But M y1 (y1.setCells M 2 [.int .u32 x2]) := But.store
  have HQ := Lib.hid (HQ1.out.but hbm nQM)
  have HR6 := Lib.hid (HR5.out.far hbm nKM nDM)
  have HB6 := Lib.hid (HB5.out.news (o := 2) (vs := [.int .u32 x2]) MW.out KL.out)
  clear hbm HR5 HB5 HM1 HQ1 Mf Ml Mc
  generalize y1.setCells M 2 [.int .u32 x2] = W3 at *
  have HMS : Hid (Own M [.int .u64 x0, .int .i64 x1, .int .u32 x2, .int .u8 (mskF G 0 0), .int .u8 (mskF G 0 1), .int .u8 (mskF G 0 2), .int .u8 (mskF G 0 3), .int .u8 (mskF G 0 4), .int .u8 (mskF G 0 5), .int .u8 (mskF G 0 6), .int .u8 (mskF G 0 7), .int .u32 0, .int .u32 0, .int .i64 0, .int .i64 0] W3) := Lib.hid (show Own M [.int .u64 x0, .int .i64 x1, .int .u32 x2, .int .u8 0, .int .u8 0, .int .u8 0, .int .u8 0, .int .u8 0, .int .u8 0, .int .u8 0, .int .u8 0, .int .u32 0, .int .u32 0, .int .i64 0, .int .i64 0] W3 from HM.out)
  clear HM
  go_wp2_with (fail)
  go_loopw [3, 18] (fun _ iv wr => ∃ (k : Nat), k ≤ 8 ∧ iv = .int .i64 k ∧ Hid (Rd wr K D F N (13 + k) (erN N (13 + k))) ∧ Hid (Own M [.int .u64 x0, .int .i64 x1, .int .u32 x2, .int .u8 (mskF G k 0), .int .u8 (mskF G k 1), .int .u8 (mskF G k 2), .int .u8 (mskF G k 3), .int .u8 (mskF G k 4), .int .u8 (mskF G k 5), .int .u8 (mskF G k 6), .int .u8 (mskF G k 7), .int .u32 0, .int .u32 0, .int .i64 0, .int .i64 0] wr) ∧ Hid (Own Q [.pointer (some ⟨K, 0, none⟩)] wr) ∧ Hid (But K w wr)) (fun _ iv _ => (8 - (intOf iv).toNat))
  case atStart => exact ⟨0, Nat.zero_le _, rfl, HR6, HMS, HQ, HB6⟩
  case round =>
    clear HR6 HMS HQ HB6
    obtain ⟨k, hk, rfl, HR, HM, HQ, HB⟩ := hrel
    by_cases hlt : k < 8
    · have hki : (k : Int) < 8 := by omega
      have k0 : (0 : Int) ≤ (k : Int) := by omega
      have wk : IntKind.i64.wrap ((k : Int) + 1) = (k : Int) + 1 := IntWalk.i64_in _ (by omega)
      have HLT := Lib.hid (show k + 1 ≤ 8 by omega)
      have rx := RG.out k
      have SK := Lib.hid (SG.out k)
      have MOk := Lib.hid (MO.out x0 x1 x2 k hlt)
      generalize G k = x at rx SK MOk
      clear hlt hk RG SG MO Sx0 Sx1 Sx2 Sx4 Sx5 Sx6 Sx7
      have Q0 := HQ.out.at 0 _ rfl
      have Ql := HQ.out.lt
      go_wp2_with (fail)
      go_at_call 33
      refine (SK.out _ HR.out).mono ?_
      rintro e y1 ⟨rfl, h1, h2⟩
      have HR1 := Lib.hid h1
      have HM1 := Lib.hid (HM.out.but h2 nMK)
      have HQ1 := Lib.hid (HQ.out.but h2 nQK)
      have HB1 := Lib.hid (HB.out.trans h2)
      have Mf := HM1.out.ok (3 + k) (by have := HLT.out; simp; omega)
      have Mc := HM1.out.at (3 + k) _ (mask_cell x0 x1 x2 (mskF G k) 0 0 0 0 k (by have := HLT.out; omega))
      have Ml := HM1.out.lt
      clear h1 h2 HR HB HM HQ Q0 Ql
      go_upto_region 8 with fail
      rw [show y1.setCell ⟨M, 3 + k, none⟩ (.int .u8 x) = y1.setCells M (3 + k) [.int .u8 x] from rfl]
      have HM : Hid (Own M [.int .u64 x0, .int .i64 x1, .int .u32 x2, .int .u8 (mskF G (k + 1) 0), .int .u8 (mskF G (k + 1) 1), .int .u8 (mskF G (k + 1) 2), .int .u8 (mskF G (k + 1) 3), .int .u8 (mskF G (k + 1) 4), .int .u8 (mskF G (k + 1) 5), .int .u8 (mskF G (k + 1) 6), .int .u8 (mskF G (k + 1) 7), .int .u32 0, .int .u32 0, .int .i64 0, .int .i64 0] (y1.setCells M (3 + k) [.int .u8 x])) := Lib.hid (by rw [← MOk.out]; exact Own.part HM1.out (by have := HLT.out; simp; omega))
      have hbm : But M y1 (y1.setCells M (3 + k) [.int .u8 x]) := But.store
      have HQ := Lib.hid (HQ1.out.but hbm nQM)
      have HR2 := Lib.hid (HR1.out.far hbm nKM nDM)
      have HB2 := Lib.hid (HB1.out.news (o := 3 + k) (vs := [.int .u8 x]) MW.out KL.out)
      clear hbm HR1 HB1 HM1 HQ1 Mf Ml Mc
      generalize y1.setCells M (3 + k) [.int .u8 x] = y2 at *
      go_wp2_with (fail)
      go_roundw
      case rel => (first | exact ⟨k + 1, HLT.out, by go_num, HR2, HM, HQ, HB2⟩ | ((repeat apply Exists.intro); exact ⟨⟨k + 1, HLT.out, by go_num, HR2, HM, HQ, HB2⟩, rfl⟩))
      case measure => (have := HLT.out; simp [intOf]; omega)
    · obtain rfl : k = 8 := by omega
      clear hlt hk RG SG MO
      have HMS : Hid (Own M [.int .u64 x0, .int .i64 x1, .int .u32 x2, .int .u8 (G 0), .int .u8 (G 1), .int .u8 (G 2), .int .u8 (G 3), .int .u8 (G 4), .int .u8 (G 5), .int .u8 (G 6), .int .u8 (G 7), .int .u32 0, .int .u32 0, .int .i64 0, .int .i64 0] wr) := Lib.hid (show Own M [.int .u64 x0, .int .i64 x1, .int .u32 x2, .int .u8 (mskF G 8 0), .int .u8 (mskF G 8 1), .int .u8 (mskF G 8 2), .int .u8 (mskF G 8 3), .int .u8 (mskF G 8 4), .int .u8 (mskF G 8 5), .int .u8 (mskF G 8 6), .int .u8 (mskF G 8 7), .int .u32 0, .int .u32 0, .int .i64 0, .int .i64 0] wr from HM.out)
      have HR20 : Hid (Rd wr K D F N 21 (erN N 21)) := Lib.hid HR.out
      have HB20 := Lib.hid HB.out
      clear HM HR HB
      have HM := HMS
      clear HMS
      have Q0 := HQ.out.at 0 _ rfl
      have Ql := HQ.out.lt
      go_wp2_with (fail)
      go_at_call 33
      refine (Sx4.out _ HR20.out).mono ?_
      rintro e y1 ⟨rfl, h1, h2⟩
      have HR21 := Lib.hid h1
      have HM1 := Lib.hid (HM.out.but h2 nMK)
      have HQ1 := Lib.hid (HQ.out.but h2 nQK)
      have HB21 := Lib.hid (HB20.out.trans h2)
      have Mf := HM1.out.ok 11 (by simp)
      have Mc := HM1.out.at 11 _ rfl
      have Ml := HM1.out.lt
      clear h1 h2 HR20 HB20 HM HQ Q0 Ql
      go_upto_region 10 with fail
      rw [show y1.setCell ⟨M, 11, none⟩ (.int .u32 x4) = y1.setCells M 11 [.int .u32 x4] from rfl]
      have HM : Hid (Own M [.int .u64 x0, .int .i64 x1, .int .u32 x2, .int .u8 (G 0), .int .u8 (G 1), .int .u8 (G 2), .int .u8 (G 3), .int .u8 (G 4), .int .u8 (G 5), .int .u8 (G 6), .int .u8 (G 7), .int .u32 x4, .int .u32 0, .int .i64 0, .int .i64 0] (y1.setCells M 11 [.int .u32 x4])) := Lib.hid (show Own M (over _ 11 [.int .u32 x4]) _ from Own.part HM1.out (by simp))
      have hbm : But M y1 (y1.setCells M 11 [.int .u32 x4]) := But.store
      have HQ := Lib.hid (HQ1.out.but hbm nQM)
      have HR22 := Lib.hid (HR21.out.far hbm nKM nDM)
      have HB22 := Lib.hid (HB21.out.news (o := 11) (vs := [.int .u32 x4]) MW.out KL.out)
      clear hbm HR21 HB21 HM1 HQ1 Mf Ml Mc
      generalize y1.setCells M 11 [.int .u32 x4] = V1 at *
      have Q0 := HQ.out.at 0 _ rfl
      have Ql := HQ.out.lt
      go_wp2_with (fail)
      go_at_call 33
      refine (Sx5.out _ HR22.out).mono ?_
      rintro e y1 ⟨rfl, h1, h2⟩
      have HR23 := Lib.hid h1
      have HM1 := Lib.hid (HM.out.but h2 nMK)
      have HQ1 := Lib.hid (HQ.out.but h2 nQK)
      have HB23 := Lib.hid (HB22.out.trans h2)
      have Mf := HM1.out.ok 12 (by simp)
      have Mc := HM1.out.at 12 _ rfl
      have Ml := HM1.out.lt
      clear h1 h2 HR22 HB22 HM HQ Q0 Ql
      go_upto_region 11 with fail
      rw [show y1.setCell ⟨M, 12, none⟩ (.int .u32 x5) = y1.setCells M 12 [.int .u32 x5] from rfl]
      have HM : Hid (Own M [.int .u64 x0, .int .i64 x1, .int .u32 x2, .int .u8 (G 0), .int .u8 (G 1), .int .u8 (G 2), .int .u8 (G 3), .int .u8 (G 4), .int .u8 (G 5), .int .u8 (G 6), .int .u8 (G 7), .int .u32 x4, .int .u32 x5, .int .i64 0, .int .i64 0] (y1.setCells M 12 [.int .u32 x5])) := Lib.hid (show Own M (over _ 12 [.int .u32 x5]) _ from Own.part HM1.out (by simp))
      have hbm : But M y1 (y1.setCells M 12 [.int .u32 x5]) := But.store
      have HQ := Lib.hid (HQ1.out.but hbm nQM)
      have HR24 := Lib.hid (HR23.out.far hbm nKM nDM)
      have HB24 := Lib.hid (HB23.out.news (o := 12) (vs := [.int .u32 x5]) MW.out KL.out)
      clear hbm HR23 HB23 HM1 HQ1 Mf Ml Mc
      generalize y1.setCells M 12 [.int .u32 x5] = V2 at *
      have Q0 := HQ.out.at 0 _ rfl
      have Ql := HQ.out.lt
      go_wp2_with (fail)
      go_at_call 33
      refine (Sx6.out _ HR24.out).mono ?_
      rintro e y1 ⟨rfl, h1, h2⟩
      have HR25 := Lib.hid h1
      have HM1 := Lib.hid (HM.out.but h2 nMK)
      have HQ1 := Lib.hid (HQ.out.but h2 nQK)
      have HB25 := Lib.hid (HB24.out.trans h2)
      have Mf := HM1.out.ok 13 (by simp)
      have Mc := HM1.out.at 13 _ rfl
      have Ml := HM1.out.lt
      clear h1 h2 HR24 HB24 HM HQ Q0 Ql
      go_upto_region 12 with fail
      rw [show y1.setCell ⟨M, 13, none⟩ (.int .i64 x6) = y1.setCells M 13 [.int .i64 x6] from rfl]
      have HM : Hid (Own M [.int .u64 x0, .int .i64 x1, .int .u32 x2, .int .u8 (G 0), .int .u8 (G 1), .int .u8 (G 2), .int .u8 (G 3), .int .u8 (G 4), .int .u8 (G 5), .int .u8 (G 6), .int .u8 (G 7), .int .u32 x4, .int .u32 x5, .int .i64 x6, .int .i64 0] (y1.setCells M 13 [.int .i64 x6])) := Lib.hid (show Own M (over _ 13 [.int .i64 x6]) _ from Own.part HM1.out (by simp))
      have hbm : But M y1 (y1.setCells M 13 [.int .i64 x6]) := But.store
      have HQ := Lib.hid (HQ1.out.but hbm nQM)
      have HR26 := Lib.hid (HR25.out.far hbm nKM nDM)
      have HB26 := Lib.hid (HB25.out.news (o := 13) (vs := [.int .i64 x6]) MW.out KL.out)
      clear hbm HR25 HB25 HM1 HQ1 Mf Ml Mc
      generalize y1.setCells M 13 [.int .i64 x6] = V3 at *
      have Q0 := HQ.out.at 0 _ rfl
      have Ql := HQ.out.lt
      go_wp2_with (fail)
      go_at_call 33
      refine (Sx7.out _ HR26.out).mono ?_
      rintro e y1 ⟨rfl, h1, h2⟩
      have HR27 := Lib.hid h1
      have HM1 := Lib.hid (HM.out.but h2 nMK)
      have HQ1 := Lib.hid (HQ.out.but h2 nQK)
      have HB27 := Lib.hid (HB26.out.trans h2)
      have Mf := HM1.out.ok 14 (by simp)
      have Mc := HM1.out.at 14 _ rfl
      have Ml := HM1.out.lt
      clear h1 h2 HR26 HB26 HM HQ Q0 Ql
      go_upto_region 13 with fail
      rw [show y1.setCell ⟨M, 14, none⟩ (.int .i64 x7) = y1.setCells M 14 [.int .i64 x7] from rfl]
      have HM : Hid (Own M [.int .u64 x0, .int .i64 x1, .int .u32 x2, .int .u8 (G 0), .int .u8 (G 1), .int .u8 (G 2), .int .u8 (G 3), .int .u8 (G 4), .int .u8 (G 5), .int .u8 (G 6), .int .u8 (G 7), .int .u32 x4, .int .u32 x5, .int .i64 x6, .int .i64 x7] (y1.setCells M 14 [.int .i64 x7])) := Lib.hid (show Own M (over _ 14 [.int .i64 x7]) _ from Own.part HM1.out (by simp))
      have hbm : But M y1 (y1.setCells M 14 [.int .i64 x7]) := But.store
      have HQ := Lib.hid (HQ1.out.but hbm nQM)
      have HR28 := Lib.hid (HR27.out.far hbm nKM nDM)
      have HB28 := Lib.hid (HB27.out.news (o := 14) (vs := [.int .i64 x7]) MW.out KL.out)
      clear hbm HR27 HB27 HM1 HQ1 Mf Ml Mc
      generalize y1.setCells M 14 [.int .i64 x7] = V4 at *
      refine wp_region_lit ?_
      refine wpList_load_mid rfl 26 _ rfl M 0 rfl ([.int .u64 x0, .int .i64 x1, .int .u32 x2, .int .u8 (G 0), .int .u8 (G 1), .int .u8 (G 2), .int .u8 (G 3), .int .u8 (G 4), .int .u8 (G 5), .int .u8 (G 6), .int .u8 (G 7), .int .u32 x4, .int .u32 x5, .int .i64 x6, .int .i64 x7]) _ HM.out.cell Tryd.underlying26 rfl (by kernel_rfl) ?_
      refine wpList_store_mid rfl 26 _ _ rfl M 0 ([.int .u64 x0, .int .i64 x1, .int .u32 x2, .int .u8 (G 0), .int .u8 (G 1), .int .u8 (G 2), .int .u8 (G 3), .int .u8 (G 4), .int .u8 (G 5), .int .u8 (G 6), .int .u8 (G 7), .int .u32 x4, .int .u32 x5, .int .i64 x6, .int .i64 x7]).toArray rfl rfl HM.out.free (by kernel_rfl) (by simp [Value.oneCell']) ?_
      change wpList _ _ _ [] _ (V4.setCells M 0 ([.int .u64 x0, .int .i64 x1, .int .u32 x2, .int .u8 (G 0), .int .u8 (G 1), .int .u8 (G 2), .int .u8 (G 3), .int .u8 (G 4), .int .u8 (G 5), .int .u8 (G 6), .int .u8 (G 7), .int .u32 x4, .int .u32 x5, .int .i64 x6, .int .i64 x7]))
      have HM5 : Hid (Own M [.int .u64 x0, .int .i64 x1, .int .u32 x2, .int .u8 (G 0), .int .u8 (G 1), .int .u8 (G 2), .int .u8 (G 3), .int .u8 (G 4), .int .u8 (G 5), .int .u8 (G 6), .int .u8 (G 7), .int .u32 x4, .int .u32 x5, .int .i64 x6, .int .i64 x7] (V4.setCells M 0 [.int .u64 x0, .int .i64 x1, .int .u32 x2, .int .u8 (G 0), .int .u8 (G 1), .int .u8 (G 2), .int .u8 (G 3), .int .u8 (G 4), .int .u8 (G 5), .int .u8 (G 6), .int .u8 (G 7), .int .u32 x4, .int .u32 x5, .int .i64 x6, .int .i64 x7])) := Lib.hid (Own.store HM.out rfl)
      have hbm : But M V4 (V4.setCells M 0 [.int .u64 x0, .int .i64 x1, .int .u32 x2, .int .u8 (G 0), .int .u8 (G 1), .int .u8 (G 2), .int .u8 (G 3), .int .u8 (G 4), .int .u8 (G 5), .int .u8 (G 6), .int .u8 (G 7), .int .u32 x4, .int .u32 x5, .int .i64 x6, .int .i64 x7]) := But.store
      have HR5 := Lib.hid (HR28.out.far hbm nKM nDM)
      have HB5 := Lib.hid (HB28.out.news (o := 0) (vs := [.int .u64 x0, .int .i64 x1, .int .u32 x2, .int .u8 (G 0), .int .u8 (G 1), .int .u8 (G 2), .int .u8 (G 3), .int .u8 (G 4), .int .u8 (G 5), .int .u8 (G 6), .int .u8 (G 7), .int .u32 x4, .int .u32 x5, .int .i64 x6, .int .i64 x7]) MW.out KL.out)
      clear hbm HR28 HB28 HM HQ
      generalize V4.setCells M 0 [.int .u64 x0, .int .i64 x1, .int .u32 x2, .int .u8 (G 0), .int .u8 (G 1), .int .u8 (G 2), .int .u8 (G 3), .int .u8 (G 4), .int .u8 (G 5), .int .u8 (G 6), .int .u8 (G 7), .int .u32 x4, .int .u32 x5, .int .i64 x6, .int .i64 x7] = V5 at *
      go_wp2_with (fail)
      have hL := run_loadVar_mid (P := Tryd.prog) _ M 0 26 [.int .u64 x0, .int .i64 x1, .int .u32 x2, .int .u8 (G 0), .int .u8 (G 1), .int .u8 (G 2), .int .u8 (G 3), .int .u8 (G 4), .int .u8 (G 5), .int .u8 (G 6), .int .u8 (G 7), .int .u32 x4, .int .u32 x5, .int .i64 x6, .int .i64 x7] _ HM5.out.cell Tryd.underlying26 rfl (by kernel_rfl)
      exact bodyPost_ret (v := .agg ([.int .u64 x0, .int .i64 x1, .int .u32 x2, .int .u8 (G 0), .int .u8 (G 1), .int .u8 (G 2), .int .u8 (G 3), .int .u8 (G 4), .int .u8 (G 5), .int .u8 (G 6), .int .u8 (G 7), .int .u32 x4, .int .u32 x5, .int .i64 x6, .int .i64 x7] : List Value).toArray) (res_cell Tryd.results26 rfl hL) rfl ⟨rfl, HR5.out, HB5.out⟩
end Go.Proofs.YtapkhecebglnlaaDoor
