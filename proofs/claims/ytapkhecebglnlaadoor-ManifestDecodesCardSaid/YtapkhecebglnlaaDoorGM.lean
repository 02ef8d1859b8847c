/- manifest: the document's Decode. -/
import Derived.Test.YtapkhecebglnlaaDoorGL
import Derived.Test.YtapkhecebglnlaaDoorGD
import Derived.Lib.Hide
import Derived.LoopN
import Derived.LoopTactic
import Derived.Deep.Onto
import Derived.Deep.RegionHeld3
import Derived.Deep.QuietTactic
import Derived.BigQuiet
namespace Go.Proofs.YtapkhecebglnlaaDoor
set_option linter.unusedVariables false
set_option maxRecDepth 2000
set_option linter.unusedSimpArgs false
open Go.RowKit
set_option maxHeartbeats 16000000 in
theorem RDecode_no (F : Nat → Int) (q : Option Addr) (N c : Nat) (hF : ∀ j, j < N → inB (F j)) (hNc : N ≤ c) (hcx : c ≤ 9223372036854775807) (w : World) (hq : Byt w q N F) (hE : decE F N ≠ 0) :
    Calls Tryd.prog 19 #[.slice q N c] w fun e w' => e = .returned (.tuple #[.agg #[.int .u64 0, .int .i64 0, .int .u32 0, .int .u8 0, .int .u8 0, .int .u8 0, .int .u8 0, .int .u8 0, .int .u8 0, .int .u8 0, .int .u8 0, .int .u32 0, .int .u32 0, .int .i64 0, .int .i64 0], .int .i64 (decE F N)]) ∧ Below w.heap.size w w' := by
  by_cases h35 : N = 35
  · subst h35
    have eE : decE F 35 = checkF (valN F 35 8 1) (mskN F 35) (valN F 35 21 4) (valN F 35 25 4) (valN F 35 29 4) (valN F 35 33 2) := rfl
    rw [eE] at hE ⊢
    have HC := Lib.hid hNc; have HCX := Lib.hid hcx
    clear hNc hcx eE
    obtain ⟨D, off, rfl, hd⟩ := hq.resolve_left (by decide)
    have Dw := hd.lt
    have HQ := Lib.hid hd
    have p8 := pw_vals.2.2.2.2.2.2.2; have p1 := pw_vals.1; have p4 := pw_vals.2.2.2.1; have p2 := pw_vals.2.1
    have b1 := in_valN hF 8 1; have b2 := in_valN hF 9 4; have b3 := Lib.hid (fun j => in_valN hF (13 + j) 1); have b4 := in_valN hF 21 4; have b5 := in_valN hF 25 4; have b6 := in_valN hF 29 4; have b7 := in_valN hF 33 2
    rw [p1] at b1
    rw [p4] at b2 b4 b5 b6
    rw [p2] at b7
    have Sx0 := Lib.hid (fun S w h => RNum_next (S := S) (D := D) (N := 35) (t := 0) (F := F) (w := w) 8 8 8 rfl rfl (by decide) (by decide) (by decide) hF h)
    have Sx1 := Lib.hid (fun S w h => RNum_next (S := S) (D := D) (N := 35) (t := 8) (F := F) (w := w) 1 9 1 rfl rfl (by decide) (by decide) (by decide) hF h)
    have Sx2 := Lib.hid (fun S w h => RNum_next (S := S) (D := D) (N := 35) (t := 9) (F := F) (w := w) 4 13 4 rfl rfl (by decide) (by decide) (by decide) hF h)
    have Sx4 := Lib.hid (fun S w h => RNum_next (S := S) (D := D) (N := 35) (t := 21) (F := F) (w := w) 4 25 4 rfl rfl (by decide) (by decide) (by decide) hF h)
    have Sx5 := Lib.hid (fun S w h => RNum_next (S := S) (D := D) (N := 35) (t := 25) (F := F) (w := w) 4 29 4 rfl rfl (by decide) (by decide) (by decide) hF h)
    have Sx6 := Lib.hid (fun S w h => RNum_next (S := S) (D := D) (N := 35) (t := 29) (F := F) (w := w) 4 33 4 rfl rfl (by decide) (by decide) (by decide) hF h)
    have Sx7 := Lib.hid (fun S w h => RNum_next (S := S) (D := D) (N := 35) (t := 33) (F := F) (w := w) 2 35 2 rfl rfl (by decide) (by decide) (by decide) hF h)
    have SG : Hid (∀ k, k < 8 → ∀ S w, RRd w S D F 35 (13 + k) 0 → Calls Tryd.prog 28 #[.pointer (some ⟨S, 0, none⟩), .int .i64 1] w fun e w' => e = .returned (.int .u64 (mskN F 35 k)) ∧ RRd w' S D F 35 (13 + (k + 1)) 0 ∧ But S w w') := Lib.hid (fun k hk S w h => RNum_next (S := S) (D := D) (N := 35) (t := 13 + k) (F := F) (w := w) 1 (13 + (k + 1)) 1 rfl (by omega) (by decide) (by decide) (by omega) hF h)
    have RG := Lib.hid (fun j => show IntKind.u8.wrap (mskN F 35 j) = mskN F 35 j by have := b3.out j; rw [p1] at this; rw [IntKind.wrap_u8']; unfold mskN; omega)
    have MO := Lib.hid (fun x0 x1 x2 k hk => msk_over x0 x1 x2 (mskN F 35) 0 0 0 0 k hk)
    clear hF hq hd b3
    generalize valN F 35 0 8 = x0 at *
    generalize valN F 35 8 1 = x1 at *
    generalize valN F 35 9 4 = x2 at *
    generalize valN F 35 21 4 = x4 at *
    generalize valN F 35 25 4 = x5 at *
    generalize valN F 35 29 4 = x6 at *
    generalize valN F 35 33 2 = x7 at *
    generalize mskN F 35 = G at *
    have CK := Lib.hid (RCheck_any x0 x1 x2 G x4 x5 x6 x7 (by omega))
    have r1 : IntKind.i64.wrap x1 = x1 := IntWalk.i64_in _ (by omega)
    have r2 : IntKind.u32.wrap x2 = x2 := IntWalk.u32_in _ (by omega)
    have r4 : IntKind.u32.wrap x4 = x4 := IntWalk.u32_in _ (by omega)
    have r5 : IntKind.u32.wrap x5 = x5 := IntWalk.u32_in _ (by omega)
    have r6 : IntKind.i64.wrap x6 = x6 := IntWalk.i64_in _ (by omega)
    have r7 : IntKind.i64.wrap x7 = x7 := IntWalk.i64_in _ (by omega)
    clear b1 b2 b4 b5 b6 b7 p8 p1 p4 p2
    generalize checkF x1 G x4 x5 x6 x7 = z at *
    have hd : (z != 0) = true := by simpa using hE
    clear hE
    go_enter Tryd.func19, Tryd.ntmps19
    go_upto_region 1 with fail
    obtain ⟨W0, hW⟩ : ∃ W0, W0 = (w.alloc (.cells #[.int .u64 0, .int .i64 0, .int .u32 0, .int .u8 0, .int .u8 0, .int .u8 0, .int .u8 0, .int .u8 0, .int .u8 0, .int .u8 0, .int .u8 0, .int .u32 0, .int .u32 0, .int .i64 0, .int .i64 0] 26)) := ⟨_, rfl⟩
    have hB0 : Below w.heap.size w W0 := hW ▸ (Below.al (Below.refl _ _))
    have HR : Hid (Own w.heap.size ([.int .u64 0, .int .i64 0, .int .u32 0, .int .u8 0, .int .u8 0, .int .u8 0, .int .u8 0, .int .u8 0, .int .u8 0, .int .u8 0, .int .u8 0, .int .u32 0, .int .u32 0, .int .i64 0, .int .i64 0]) W0) := Lib.hid (hW ▸ (show Own w.heap.size ([.int .u64 0, .int .i64 0, .int .u32 0, .int .u8 0, .int .u8 0, .int .u8 0, .int .u8 0, .int .u8 0, .int .u8 0, .int .u8 0, .int .u8 0, .int .u32 0, .int .u32 0, .int .i64 0, .int .i64 0]) (w.alloc (.cells #[.int .u64 0, .int .i64 0, .int .u32 0, .int .u8 0, .int .u8 0, .int .u8 0, .int .u8 0, .int .u8 0, .int .u8 0, .int .u8 0, .int .u8 0, .int .u32 0, .int .u32 0, .int .i64 0, .int .i64 0] 26)) from Own.newAt (by simp)))
    rw [← hW]
    clear hW
    obtain ⟨R, eR⟩ : ∃ X, X = w.heap.size := ⟨_, rfl⟩
    rw [← eR] at HR ⊢
    have Rw : w.heap.size ≤ R := by omega
    clear eR
    have HQ0 := Lib.hid (HQ.out.later hB0)
    clear HQ
    go_upto_region 6 with fail
    obtain ⟨w1, hW⟩ : ∃ w1, w1 = (W0.alloc (.cells #[.slice (some ⟨D, off, none⟩) 35 c, .int .i64 0, .int .i64 0] 61)) := ⟨_, rfl⟩
    have hBx : Below W0.heap.size W0 w1 := hW ▸ (Below.al (Below.refl _ _))
    have HS : Hid (Own W0.heap.size ([.slice (some ⟨D, off, none⟩) 35 c, .int .i64 0, .int .i64 0]) w1) := Lib.hid (hW ▸ (show Own W0.heap.size ([.slice (some ⟨D, off, none⟩) 35 c, .int .i64 0, .int .i64 0]) (W0.alloc (.cells #[.slice (some ⟨D, off, none⟩) 35 c, .int .i64 0, .int .i64 0] 61)) from Own.newAt (by simp)))
    rw [← hW]
    clear hW
    obtain ⟨S, eS⟩ : ∃ X, X = W0.heap.size := ⟨_, rfl⟩
    rw [← eS] at HS ⊢
    have Sw : W0.heap.size ≤ S := by omega
    clear eS
    have nSR : S ≠ R := by have := HR.out.lt; omega
    have nRS : R ≠ S := Ne.symm nSR
    have Sw2 : w.heap.size ≤ S := by have := hB0.size; omega
    clear Sw
    have Sw := Sw2
    clear Sw2
    have HRk := Lib.hid (HR.out.later hBx)
    clear HR
    have HR := HRk
    clear HRk
    have HQ1 := Lib.hid (HQ0.out.later hBx)
    have hB0n := Below.go hB0 hBx
    clear hB0 hBx
    have hB0 := hB0n
    clear hB0n
    have nDS : D ≠ S := by omega
    have HD0 : Hid (RRd w1 S D F 35 0 0) := Lib.hid ⟨⟨some ⟨D, off, none⟩, c, HS.out, .inr ⟨off, rfl, nDS, HQ1.out⟩, HC.out, HCX.out⟩, Nat.zero_le _⟩
    have HB0 := Lib.hid hB0
    clear HS HQ0 HQ1 hB0
    go_wp2_with (fail)
    go_at_call 28
    refine (Sx0.out S _ HD0.out).mono ?_
    rintro e w2 ⟨rfl, h1, h2⟩
    have HD1 := Lib.hid h1
    have HR1 := Lib.hid (HR.out.but h2 nRS)
    have HB1 := Lib.hid (HB0.out.trans (h2.below.mono Sw))
    clear h1 h2 HD0 HB0 HR
    have HR := HR1
    clear HR1
    go_wp2_with (fail)
    go_at_call 28
    refine (Sx1.out S _ HD1.out).mono ?_
    rintro e w3 ⟨rfl, h1, h2⟩
    have HD2 := Lib.hid h1
    have HR1 := Lib.hid (HR.out.but h2 nRS)
    have HB2 := Lib.hid (HB1.out.trans (h2.below.mono Sw))
    clear h1 h2 HD1 HB1 HR
    have HR := HR1
    clear HR1
    go_wp2_with (fail)
    go_at_call 28
    refine (Sx2.out S _ HD2.out).mono ?_
    rintro e w4 ⟨rfl, h1, h2⟩
    have HD3 := Lib.hid h1
    have HR1 := Lib.hid (HR.out.but h2 nRS)
    have HB3 := Lib.hid (HB2.out.trans (h2.below.mono Sw))
    clear h1 h2 HD2 HB2 HR
    have HR := HR1
    clear HR1
    have hB3 := HB3.out
    clear HB3
    have Sl4 := HD3.out.lt
    go_upto_region 7 with fail
    obtain ⟨w5, hW⟩ : ∃ w5, w5 = (w4.alloc (.cells #[.int .u64 x0, .int .i64 x1, .int .u32 x2, .int .u8 0, .int .u8 0, .int .u8 0, .int .u8 0, .int .u8 0, .int .u8 0, .int .u8 0, .int .u8 0, .int .u32 0, .int .u32 0, .int .i64 0, .int .i64 0] 26)) := ⟨_, rfl⟩
    have hBx : Below w4.heap.size w4 w5 := hW ▸ (Below.al (Below.refl _ _))
    have HX : Hid (Own w4.heap.size ([.int .u64 x0, .int .i64 x1, .int .u32 x2, .int .u8 0, .int .u8 0, .int .u8 0, .int .u8 0, .int .u8 0, .int .u8 0, .int .u8 0, .int .u8 0, .int .u32 0, .int .u32 0, .int .i64 0, .int .i64 0]) w5) := Lib.hid (hW ▸ (show Own w4.heap.size ([.int .u64 x0, .int .i64 x1, .int .u32 x2, .int .u8 0, .int .u8 0, .int .u8 0, .int .u8 0, .int .u8 0, .int .u8 0, .int .u8 0, .int .u8 0, .int .u32 0, .int .u32 0, .int .i64 0, .int .i64 0]) (w4.alloc (.cells #[.int .u64 x0, .int .i64 x1, .int .u32 x2, .int .u8 0, .int .u8 0, .int .u8 0, .int .u8 0, .int .u8 0, .int .u8 0, .int .u8 0, .int .u8 0, .int .u32 0, .int .u32 0, .int .i64 0, .int .i64 0] 26)) from Own.newAt (by simp)))
    rw [← hW]
    clear hW
    obtain ⟨X, eX⟩ : ∃ X, X = w4.heap.size := ⟨_, rfl⟩
    rw [← eX] at HX ⊢
    have Xw : w4.heap.size ≤ X := by omega
    clear eX
    have nXR : X ≠ R := by have := HR.out.lt; omega
    have nRX : R ≠ X := Ne.symm nXR
    have nXS : X ≠ S := by omega
    have Xw2 : w.heap.size ≤ X := by have := hB3.size; omega
    clear Xw
    have Xw := Xw2
    clear Xw2
    have HRk := Lib.hid (HR.out.later hBx)
    clear HR
    have HR := HRk
    clear HRk
    have HD4 := Lib.hid (HD3.out.later hBx)
    have hB3n := Below.go hB3 hBx
    clear hB3 hBx
    have hB3 := hB3n
    clear hB3n
    have nSX : S ≠ X := Ne.symm nXS
    have nDX : D ≠ X := by omega
    have HB4 := Lib.hid hB3
    clear hB3 HD3 Sl4
    have HMS : Hid (Own X [.int .u64 x0, .int .i64 x1, .int .u32 x2, .int .u8 (mskF G 0 0), .int .u8 (mskF G 0 1), .int .u8 (mskF G 0 2), .int .u8 (mskF G 0 3), .int .u8 (mskF G 0 4), .int .u8 (mskF G 0 5), .int .u8 (mskF G 0 6), .int .u8 (mskF G 0 7), .int .u32 0, .int .u32 0, .int .i64 0, .int .i64 0] w5) := Lib.hid (show Own X [.int .u64 x0, .int .i64 x1, .int .u32 x2, .int .u8 0, .int .u8 0, .int .u8 0, .int .u8 0, .int .u8 0, .int .u8 0, .int .u8 0, .int .u8 0, .int .u32 0, .int .u32 0, .int .i64 0, .int .i64 0] w5 from HX.out)
    clear HX
    go_wp2_with (fail)
    go_loopw [6] (fun iv wr => ∃ (k : Nat), k ≤ 8 ∧ iv = .int .i64 k ∧ Hid (RRd wr S D F 35 (13 + k) 0) ∧ Hid (Own X [.int .u64 x0, .int .i64 x1, .int .u32 x2, .int .u8 (mskF G k 0), .int .u8 (mskF G k 1), .int .u8 (mskF G k 2), .int .u8 (mskF G k 3), .int .u8 (mskF G k 4), .int .u8 (mskF G k 5), .int .u8 (mskF G k 6), .int .u8 (mskF G k 7), .int .u32 0, .int .u32 0, .int .i64 0, .int .i64 0] wr) ∧ Hid (Own R [.int .u64 0, .int .i64 0, .int .u32 0, .int .u8 0, .int .u8 0, .int .u8 0, .int .u8 0, .int .u8 0, .int .u8 0, .int .u8 0, .int .u8 0, .int .u32 0, .int .u32 0, .int .i64 0, .int .i64 0] wr) ∧ Hid (Below w.heap.size w wr)) (fun iv _ => (8 - (intOf iv).toNat))
    case atStart => exact ⟨0, Nat.zero_le _, rfl, HD4, HMS, HR, HB4⟩
    case round =>
      clear HD4 HMS HR HB4
      obtain ⟨k, hk, rfl, HD, HM, HR, HB⟩ := hrel
      by_cases hlt : k < 8
      · have hki : (k : Int) < 8 := by omega
        have k0 : (0 : Int) ≤ (k : Int) := by omega
        have wk : IntKind.i64.wrap ((k : Int) + 1) = (k : Int) + 1 := IntWalk.i64_in _ (by omega)
        have HLT := Lib.hid (show k + 1 ≤ 8 by omega)
        have rx := RG.out k
        have SK := Lib.hid (SG.out k hlt)
        have MOk := Lib.hid (MO.out x0 x1 x2 k hlt)
        generalize G k = x at rx SK MOk
        clear hlt hk RG SG MO CK Sx0 Sx1 Sx2 Sx4 Sx5 Sx6 Sx7
        go_wp2_with (fail)
        go_at_call 28
        refine (SK.out S _ HD.out).mono ?_
        rintro e y1 ⟨rfl, h1, h2⟩
        have HD1 := Lib.hid h1
        have HM1 := Lib.hid (HM.out.but h2 nXS)
        have HR1 := Lib.hid (HR.out.but h2 nRS)
        have HB1 := Lib.hid (HB.out.trans (h2.below.mono Sw))
        have Mf := HM1.out.ok (3 + k) (by have := HLT.out; simp; omega)
        have Mc := HM1.out.at (3 + k) _ (mask_cell x0 x1 x2 (mskF G k) 0 0 0 0 k (by have := HLT.out; omega))
        have Ml := HM1.out.lt
        clear h1 h2 HD HB HM HR
        go_upto_region 9 with fail
        rw [show y1.setCell ⟨X, 3 + k, none⟩ (.int .u8 x) = y1.setCells X (3 + k) [.int .u8 x] from rfl]
        have HM : Hid (Own X [.int .u64 x0, .int .i64 x1, .int .u32 x2, .int .u8 (mskF G (k + 1) 0), .int .u8 (mskF G (k + 1) 1), .int .u8 (mskF G (k + 1) 2), .int .u8 (mskF G (k + 1) 3), .int .u8 (mskF G (k + 1) 4), .int .u8 (mskF G (k + 1) 5), .int .u8 (mskF G (k + 1) 6), .int .u8 (mskF G (k + 1) 7), .int .u32 0, .int .u32 0, .int .i64 0, .int .i64 0] (y1.setCells X (3 + k) [.int .u8 x])) := Lib.hid (by rw [← MOk.out]; exact Own.part HM1.out (by have := HLT.out; simp; omega))
        have hbm : But X y1 (y1.setCells X (3 + k) [.int .u8 x]) := But.store
        have HD2 := Lib.hid (HD1.out.far hbm nSX nDX)
        have HR2 := Lib.hid (HR1.out.but hbm nRX)
        have HB2 := Lib.hid (Below.setCells HB1.out Xw [.int .u8 x] (3 + k))
        clear hbm HD1 HB1 HM1 HR1 Mf Ml Mc
        generalize y1.setCells X (3 + k) [.int .u8 x] = y2 at *
        go_wp2_with (fail)
        go_roundw
        case rel => (first | exact ⟨k + 1, HLT.out, by go_num, HD2, HM, HR2, HB2⟩ | ((repeat apply Exists.intro); exact ⟨⟨k + 1, HLT.out, by go_num, HD2, HM, HR2, HB2⟩, rfl⟩))
        case measure => (have := HLT.out; simp [intOf]; omega)
      · obtain rfl : k = 8 := by omega
        clear hlt hk RG SG MO
        have HMS : Hid (Own X [.int .u64 x0, .int .i64 x1, .int .u32 x2, .int .u8 (G 0), .int .u8 (G 1), .int .u8 (G 2), .int .u8 (G 3), .int .u8 (G 4), .int .u8 (G 5), .int .u8 (G 6), .int .u8 (G 7), .int .u32 0, .int .u32 0, .int .i64 0, .int .i64 0] wr) := Lib.hid (show Own X [.int .u64 x0, .int .i64 x1, .int .u32 x2, .int .u8 (mskF G 8 0), .int .u8 (mskF G 8 1), .int .u8 (mskF G 8 2), .int .u8 (mskF G 8 3), .int .u8 (mskF G 8 4), .int .u8 (mskF G 8 5), .int .u8 (mskF G 8 6), .int .u8 (mskF G 8 7), .int .u32 0, .int .u32 0, .int .i64 0, .int .i64 0] wr from HM.out)
        have HD20 : Hid (RRd wr S D F 35 21 0) := Lib.hid HD.out
        have HB20 := Lib.hid HB.out
        clear HM HD HB
        have HM := HMS
        clear HMS
        go_wp2_with (fail)
        go_at_call 28
        refine (Sx4.out S _ HD20.out).mono ?_
        rintro e y1 ⟨rfl, h1, h2⟩
        have HD21 := Lib.hid h1
        have HM1 := Lib.hid (HM.out.but h2 nXS)
        have HR1 := Lib.hid (HR.out.but h2 nRS)
        have HB21 := Lib.hid (HB20.out.trans (h2.below.mono Sw))
        have Mf := HM1.out.ok 11 (by simp)
        have Mc := HM1.out.at 11 _ rfl
        have Ml := HM1.out.lt
        clear h1 h2 HD20 HB20 HM HR
        go_upto_region 12 with fail
        rw [show y1.setCell ⟨X, 11, none⟩ (.int .u32 x4) = y1.setCells X 11 [.int .u32 x4] from rfl]
        have HM : Hid (Own X [.int .u64 x0, .int .i64 x1, .int .u32 x2, .int .u8 (G 0), .int .u8 (G 1), .int .u8 (G 2), .int .u8 (G 3), .int .u8 (G 4), .int .u8 (G 5), .int .u8 (G 6), .int .u8 (G 7), .int .u32 x4, .int .u32 0, .int .i64 0, .int .i64 0] (y1.setCells X 11 [.int .u32 x4])) := Lib.hid (show Own X (over _ 11 [.int .u32 x4]) _ from Own.part HM1.out (by simp))
        have hbm : But X y1 (y1.setCells X 11 [.int .u32 x4]) := But.store
        have HR := Lib.hid (HR1.out.but hbm nRX)
        have HD22 := Lib.hid (HD21.out.far hbm nSX nDX)
        have HB22 := Lib.hid (Below.setCells HB21.out Xw [.int .u32 x4] 11)
        clear hbm HD21 HB21 HM1 HR1 Mf Ml Mc
        generalize y1.setCells X 11 [.int .u32 x4] = V1 at *
        go_wp2_with (fail)
        go_at_call 28
        refine (Sx5.out S _ HD22.out).mono ?_
        rintro e y1 ⟨rfl, h1, h2⟩
        have HD23 := Lib.hid h1
        have HM1 := Lib.hid (HM.out.but h2 nXS)
        have HR1 := Lib.hid (HR.out.but h2 nRS)
        have HB23 := Lib.hid (HB22.out.trans (h2.below.mono Sw))
        have Mf := HM1.out.ok 12 (by simp)
        have Mc := HM1.out.at 12 _ rfl
        have Ml := HM1.out.lt
        clear h1 h2 HD22 HB22 HM HR
        go_upto_region 13 with fail
        rw [show y1.setCell ⟨X, 12, none⟩ (.int .u32 x5) = y1.setCells X 12 [.int .u32 x5] from rfl]
        have HM : Hid (Own X [.int .u64 x0, .int .i64 x1, .int .u32 x2, .int .u8 (G 0), .int .u8 (G 1), .int .u8 (G 2), .int .u8 (G 3), .int .u8 (G 4), .int .u8 (G 5), .int .u8 (G 6), .int .u8 (G 7), .int .u32 x4, .int .u32 x5, .int .i64 0, .int .i64 0] (y1.setCells X 12 [.int .u32 x5])) := Lib.hid (show Own X (over _ 12 [.int .u32 x5]) _ from Own.part HM1.out (by simp))
        have hbm : But X y1 (y1.setCells X 12 [.int .u32 x5]) := But.store
        have HR := Lib.hid (HR1.out.but hbm nRX)
        have HD24 := Lib.hid (HD23.out.far hbm nSX nDX)
        have HB24 := Lib.hid (Below.setCells HB23.out Xw [.int .u32 x5] 12)
        clear hbm HD23 HB23 HM1 HR1 Mf Ml Mc
        generalize y1.setCells X 12 [.int .u32 x5] = V2 at *
        go_wp2_with (fail)
        go_at_call 28
        refine (Sx6.out S _ HD24.out).mono ?_
        rintro e y1 ⟨rfl, h1, h2⟩
        have HD25 := Lib.hid h1
        have HM1 := Lib.hid (HM.out.but h2 nXS)
        have HR1 := Lib.hid (HR.out.but h2 nRS)
        have HB25 := Lib.hid (HB24.out.trans (h2.below.mono Sw))
        have Mf := HM1.out.ok 13 (by simp)
        have Mc := HM1.out.at 13 _ rfl
        have Ml := HM1.out.lt
        clear h1 h2 HD24 HB24 HM HR
        go_upto_region 14 with fail
        rw [show y1.setCell ⟨X, 13, none⟩ (.int .i64 x6) = y1.setCells X 13 [.int .i64 x6] from rfl]
        have HM : Hid (Own X [.int .u64 x0, .int .i64 x1, .int .u32 x2, .int .u8 (G 0), .int .u8 (G 1), .int .u8 (G 2), .int .u8 (G 3), .int .u8 (G 4), .int .u8 (G 5), .int .u8 (G 6), .int .u8 (G 7), .int .u32 x4, .int .u32 x5, .int .i64 x6, .int .i64 0] (y1.setCells X 13 [.int .i64 x6])) := Lib.hid (show Own X (over _ 13 [.int .i64 x6]) _ from Own.part HM1.out (by simp))
        have hbm : But X y1 (y1.setCells X 13 [.int .i64 x6]) := But.store
        have HR := Lib.hid (HR1.out.but hbm nRX)
        have HD26 := Lib.hid (HD25.out.far hbm nSX nDX)
        have HB26 := Lib.hid (Below.setCells HB25.out Xw [.int .i64 x6] 13)
        clear hbm HD25 HB25 HM1 HR1 Mf Ml Mc
        generalize y1.setCells X 13 [.int .i64 x6] = V3 at *
        go_wp2_with (fail)
        go_at_call 28
        refine (Sx7.out S _ HD26.out).mono ?_
        rintro e y1 ⟨rfl, h1, h2⟩
        have HD27 := Lib.hid h1
        have HM1 := Lib.hid (HM.out.but h2 nXS)
        have HR1 := Lib.hid (HR.out.but h2 nRS)
        have HB27 := Lib.hid (HB26.out.trans (h2.below.mono Sw))
        have Mf := HM1.out.ok 14 (by simp)
        have Mc := HM1.out.at 14 _ rfl
        have Ml := HM1.out.lt
        clear h1 h2 HD26 HB26 HM HR
        go_upto_region 15 with fail
        rw [show y1.setCell ⟨X, 14, none⟩ (.int .i64 x7) = y1.setCells X 14 [.int .i64 x7] from rfl]
        have HM : Hid (Own X [.int .u64 x0, .int .i64 x1, .int .u32 x2, .int .u8 (G 0), .int .u8 (G 1), .int .u8 (G 2), .int .u8 (G 3), .int .u8 (G 4), .int .u8 (G 5), .int .u8 (G 6), .int .u8 (G 7), .int .u32 x4, .int .u32 x5, .int .i64 x6, .int .i64 x7] (y1.setCells X 14 [.int .i64 x7])) := Lib.hid (show Own X (over _ 14 [.int .i64 x7]) _ from Own.part HM1.out (by simp))
        have hbm : But X y1 (y1.setCells X 14 [.int .i64 x7]) := But.store
        have HR := Lib.hid (HR1.out.but hbm nRX)
        have HD28 := Lib.hid (HD27.out.far hbm nSX nDX)
        have HB28 := Lib.hid (Below.setCells HB27.out Xw [.int .i64 x7] 14)
        clear hbm HD27 HB27 HM1 HR1 Mf Ml Mc
        generalize y1.setCells X 14 [.int .i64 x7] = V4 at *
        have oX := HM.out
        have X0 := oX.at 0 _ rfl
        have X1 := oX.at 1 _ rfl
        have X2 := oX.at 2 _ rfl
        have X3 := oX.at 3 _ rfl
        have X4 := oX.at 4 _ rfl
        have X5 := oX.at 5 _ rfl
        have X6 := oX.at 6 _ rfl
        have X7 := oX.at 7 _ rfl
        have X8 := oX.at 8 _ rfl
        have X9 := oX.at 9 _ rfl
        have X10 := oX.at 10 _ rfl
        have X11 := oX.at 11 _ rfl
        have X12 := oX.at 12 _ rfl
        have X13 := oX.at 13 _ rfl
        have X14 := oX.at 14 _ rfl
        have Xl := oX.lt
        clear oX
        go_wp2_with (fail)
        go_at_call 13
        refine (CK.out _).mono ?_
        rintro e w9 ⟨rfl, hb⟩
        have HR5 := Lib.hid (HR.out.later hb)
        have HX5 := Lib.hid (HM.out.later hb)
        have HB5 := Lib.hid (Below.go HB28.out hb)
        clear hb CK HR HM HB28 HD28 X0 X1 X2 X3 X4 X5 X6 X7 X8 X9 X10 X11 X12 X13 X14 Xl
        have oR := HR5.out
        have R0 := oR.at 0 _ rfl
        have Rf0 := oR.ok 0 (by simp)
        have R1 := oR.at 1 _ rfl
        have Rf1 := oR.ok 1 (by simp)
        have R2 := oR.at 2 _ rfl
        have Rf2 := oR.ok 2 (by simp)
        have R3 := oR.at 3 _ rfl
        have Rf3 := oR.ok 3 (by simp)
        have R4 := oR.at 4 _ rfl
        have Rf4 := oR.ok 4 (by simp)
        have R5 := oR.at 5 _ rfl
        have Rf5 := oR.ok 5 (by simp)
        have R6 := oR.at 6 _ rfl
        have Rf6 := oR.ok 6 (by simp)
        have R7 := oR.at 7 _ rfl
        have Rf7 := oR.ok 7 (by simp)
        have R8 := oR.at 8 _ rfl
        have Rf8 := oR.ok 8 (by simp)
        have R9 := oR.at 9 _ rfl
        have Rf9 := oR.ok 9 (by simp)
        have R10 := oR.at 10 _ rfl
        have Rf10 := oR.ok 10 (by simp)
        have R11 := oR.at 11 _ rfl
        have Rf11 := oR.ok 11 (by simp)
        have R12 := oR.at 12 _ rfl
        have Rf12 := oR.ok 12 (by simp)
        have R13 := oR.at 13 _ rfl
        have Rf13 := oR.ok 13 (by simp)
        have R14 := oR.at 14 _ rfl
        have Rf14 := oR.ok 14 (by simp)
        have Rl := oR.lt
        clear oR
        go_wp2_with (fail)
        change bodyPost _ _ _ _ _ (w9.setCells R 0 [.int .u64 0, .int .i64 0, .int .u32 0, .int .u8 0, .int .u8 0, .int .u8 0, .int .u8 0, .int .u8 0, .int .u8 0, .int .u8 0, .int .u8 0, .int .u32 0, .int .u32 0, .int .i64 0, .int .i64 0])
        have HR9 : Own R [.int .u64 0, .int .i64 0, .int .u32 0, .int .u8 0, .int .u8 0, .int .u8 0, .int .u8 0, .int .u8 0, .int .u8 0, .int .u8 0, .int .u8 0, .int .u32 0, .int .u32 0, .int .i64 0, .int .i64 0] (w9.setCells R 0 [.int .u64 0, .int .i64 0, .int .u32 0, .int .u8 0, .int .u8 0, .int .u8 0, .int .u8 0, .int .u8 0, .int .u8 0, .int .u8 0, .int .u8 0, .int .u32 0, .int .u32 0, .int .i64 0, .int .i64 0]) := Own.store HR5.out rfl
        have HB9 : Below w.heap.size w (w9.setCells R 0 [.int .u64 0, .int .i64 0, .int .u32 0, .int .u8 0, .int .u8 0, .int .u8 0, .int .u8 0, .int .u8 0, .int .u8 0, .int .u8 0, .int .u8 0, .int .u32 0, .int .u32 0, .int .i64 0, .int .i64 0]) := Below.setCells HB5.out Rw _ _
        have hL := run_loadVar_mid (P := Tryd.prog) _ R 0 26 [.int .u64 0, .int .i64 0, .int .u32 0, .int .u8 0, .int .u8 0, .int .u8 0, .int .u8 0, .int .u8 0, .int .u8 0, .int .u8 0, .int .u8 0, .int .u32 0, .int .u32 0, .int .i64 0, .int .i64 0] _ HR9.cell Tryd.underlying26 rfl (by kernel_rfl)
        exact bodyPost_ret (v := .tuple #[.agg ([.int .u64 0, .int .i64 0, .int .u32 0, .int .u8 0, .int .u8 0, .int .u8 0, .int .u8 0, .int .u8 0, .int .u8 0, .int .u8 0, .int .u8 0, .int .u32 0, .int .u32 0, .int .i64 0, .int .i64 0] : List Value).toArray, .int .i64 z]) (res_two Tryd.results19 rfl hL rfl) rfl ⟨rfl, HB9⟩
  · by_cases hlt : N < 35
    · have eE : decE F N = 4 := if_pos hlt
      rw [eE]
      have d1 : decide ((N : Int) < 35) = true := decide_eq_true (by omega)
      clear hF hNc hcx hq hE h35 hlt eE
      go_enter Tryd.func19, Tryd.ntmps19
      go_upto_region 1 with fail
      obtain ⟨W0, hW⟩ : ∃ W0, W0 = (w.alloc (.cells #[.int .u64 0, .int .i64 0, .int .u32 0, .int .u8 0, .int .u8 0, .int .u8 0, .int .u8 0, .int .u8 0, .int .u8 0, .int .u8 0, .int .u8 0, .int .u32 0, .int .u32 0, .int .i64 0, .int .i64 0] 26)) := ⟨_, rfl⟩
      have hB0 : Below w.heap.size w W0 := hW ▸ (Below.al (Below.refl _ _))
      have HR : Hid (Own w.heap.size ([.int .u64 0, .int .i64 0, .int .u32 0, .int .u8 0, .int .u8 0, .int .u8 0, .int .u8 0, .int .u8 0, .int .u8 0, .int .u8 0, .int .u8 0, .int .u32 0, .int .u32 0, .int .i64 0, .int .i64 0]) W0) := Lib.hid (hW ▸ (show Own w.heap.size ([.int .u64 0, .int .i64 0, .int .u32 0, .int .u8 0, .int .u8 0, .int .u8 0, .int .u8 0, .int .u8 0, .int .u8 0, .int .u8 0, .int .u8 0, .int .u32 0, .int .u32 0, .int .i64 0, .int .i64 0]) (w.alloc (.cells #[.int .u64 0, .int .i64 0, .int .u32 0, .int .u8 0, .int .u8 0, .int .u8 0, .int .u8 0, .int .u8 0, .int .u8 0, .int .u8 0, .int .u8 0, .int .u32 0, .int .u32 0, .int .i64 0, .int .i64 0] 26)) from Own.newAt (by simp)))
      rw [← hW]
      clear hW
      obtain ⟨R, eR⟩ : ∃ X, X = w.heap.size := ⟨_, rfl⟩
      rw [← eR] at HR ⊢
      have Rw : w.heap.size ≤ R := by omega
      clear eR
      have HB0 := Lib.hid hB0
      clear hB0
      have oR := HR.out
      have R0 := oR.at 0 _ rfl
      have Rf0 := oR.ok 0 (by simp)
      have R1 := oR.at 1 _ rfl
      have Rf1 := oR.ok 1 (by simp)
      have R2 := oR.at 2 _ rfl
      have Rf2 := oR.ok 2 (by simp)
      have R3 := oR.at 3 _ rfl
      have Rf3 := oR.ok 3 (by simp)
      have R4 := oR.at 4 _ rfl
      have Rf4 := oR.ok 4 (by simp)
      have R5 := oR.at 5 _ rfl
      have Rf5 := oR.ok 5 (by simp)
      have R6 := oR.at 6 _ rfl
      have Rf6 := oR.ok 6 (by simp)
      have R7 := oR.at 7 _ rfl
      have Rf7 := oR.ok 7 (by simp)
      have R8 := oR.at 8 _ rfl
      have Rf8 := oR.ok 8 (by simp)
      have R9 := oR.at 9 _ rfl
      have Rf9 := oR.ok 9 (by simp)
      have R10 := oR.at 10 _ rfl
      have Rf10 := oR.ok 10 (by simp)
      have R11 := oR.at 11 _ rfl
      have Rf11 := oR.ok 11 (by simp)
      have R12 := oR.at 12 _ rfl
      have Rf12 := oR.ok 12 (by simp)
      have R13 := oR.at 13 _ rfl
      have Rf13 := oR.ok 13 (by simp)
      have R14 := oR.at 14 _ rfl
      have Rf14 := oR.ok 14 (by simp)
      have Rl := oR.lt
      clear oR
      go_wp2_with (fail)
      change bodyPost _ _ _ _ _ (W0.setCells R 0 [.int .u64 0, .int .i64 0, .int .u32 0, .int .u8 0, .int .u8 0, .int .u8 0, .int .u8 0, .int .u8 0, .int .u8 0, .int .u8 0, .int .u8 0, .int .u32 0, .int .u32 0, .int .i64 0, .int .i64 0])
      have HR9 : Own R [.int .u64 0, .int .i64 0, .int .u32 0, .int .u8 0, .int .u8 0, .int .u8 0, .int .u8 0, .int .u8 0, .int .u8 0, .int .u8 0, .int .u8 0, .int .u32 0, .int .u32 0, .int .i64 0, .int .i64 0] (W0.setCells R 0 [.int .u64 0, .int .i64 0, .int .u32 0, .int .u8 0, .int .u8 0, .int .u8 0, .int .u8 0, .int .u8 0, .int .u8 0, .int .u8 0, .int .u8 0, .int .u32 0, .int .u32 0, .int .i64 0, .int .i64 0]) := Own.store HR.out rfl
      have HB9 : Below w.heap.size w (W0.setCells R 0 [.int .u64 0, .int .i64 0, .int .u32 0, .int .u8 0, .int .u8 0, .int .u8 0, .int .u8 0, .int .u8 0, .int .u8 0, .int .u8 0, .int .u8 0, .int .u32 0, .int .u32 0, .int .i64 0, .int .i64 0]) := Below.setCells HB0.out Rw _ _
      have hL := run_loadVar_mid (P := Tryd.prog) _ R 0 26 [.int .u64 0, .int .i64 0, .int .u32 0, .int .u8 0, .int .u8 0, .int .u8 0, .int .u8 0, .int .u8 0, .int .u8 0, .int .u8 0, .int .u8 0, .int .u32 0, .int .u32 0, .int .i64 0, .int .i64 0] _ HR9.cell Tryd.underlying26 rfl (by kernel_rfl)
      exact bodyPost_ret (v := .tuple #[.agg ([.int .u64 0, .int .i64 0, .int .u32 0, .int .u8 0, .int .u8 0, .int .u8 0, .int .u8 0, .int .u8 0, .int .u8 0, .int .u8 0, .int .u8 0, .int .u32 0, .int .u32 0, .int .i64 0, .int .i64 0] : List Value).toArray, .int .i64 4]) (res_two Tryd.results19 rfl hL rfl) rfl ⟨rfl, HB9⟩
    · have eE : decE F N = 5 := (if_neg hlt).trans (if_pos (by omega))
      rw [eE]
      have d1 : decide ((N : Int) < 35) = false := decide_eq_false (by omega)
      have d2 : decide (35 < (N : Int)) = true := decide_eq_true (by omega)
      clear hF hNc hcx hq hE h35 hlt eE
      go_enter Tryd.func19, Tryd.ntmps19
      go_upto_region 1 with fail
      obtain ⟨W0, hW⟩ : ∃ W0, W0 = (w.alloc (.cells #[.int .u64 0, .int .i64 0, .int .u32 0, .int .u8 0, .int .u8 0, .int .u8 0, .int .u8 0, .int .u8 0, .int .u8 0, .int .u8 0, .int .u8 0, .int .u32 0, .int .u32 0, .int .i64 0, .int .i64 0] 26)) := ⟨_, rfl⟩
      have hB0 : Below w.heap.size w W0 := hW ▸ (Below.al (Below.refl _ _))
      have HR : Hid (Own w.heap.size ([.int .u64 0, .int .i64 0, .int .u32 0, .int .u8 0, .int .u8 0, .int .u8 0, .int .u8 0, .int .u8 0, .int .u8 0, .int .u8 0, .int .u8 0, .int .u32 0, .int .u32 0, .int .i64 0, .int .i64 0]) W0) := Lib.hid (hW ▸ (show Own w.heap.size ([.int .u64 0, .int .i64 0, .int .u32 0, .int .u8 0, .int .u8 0, .int .u8 0, .int .u8 0, .int .u8 0, .int .u8 0, .int .u8 0, .int .u8 0, .int .u32 0, .int .u32 0, .int .i64 0, .int .i64 0]) (w.alloc (.cells #[.int .u64 0, .int .i64 0, .int .u32 0, .int .u8 0, .int .u8 0, .int .u8 0, .int .u8 0, .int .u8 0, .int .u8 0, .int .u8 0, .int .u8 0, .int .u32 0, .int .u32 0, .int .i64 0, .int .i64 0] 26)) from Own.newAt (by simp)))
      rw [← hW]
      clear hW
      obtain ⟨R, eR⟩ : ∃ X, X = w.heap.size := ⟨_, rfl⟩
      rw [← eR] at HR ⊢
      have Rw : w.heap.size ≤ R := by omega
      clear eR
      have HB0 := Lib.hid hB0
      clear hB0
      have oR := HR.out
      have R0 := oR.at 0 _ rfl
      have Rf0 := oR.ok 0 (by simp)
      have R1 := oR.at 1 _ rfl
      have Rf1 := oR.ok 1 (by simp)
      have R2 := oR.at 2 _ rfl
      have Rf2 := oR.ok 2 (by simp)
      have R3 := oR.at 3 _ rfl
      have Rf3 := oR.ok 3 (by simp)
      have R4 := oR.at 4 _ rfl
      have Rf4 := oR.ok 4 (by simp)
      have R5 := oR.at 5 _ rfl
      have Rf5 := oR.ok 5 (by simp)
      have R6 := oR.at 6 _ rfl
      have Rf6 := oR.ok 6 (by simp)
      have R7 := oR.at 7 _ rfl
      have Rf7 := oR.ok 7 (by simp)
      have R8 := oR.at 8 _ rfl
      have Rf8 := oR.ok 8 (by simp)
      have R9 := oR.at 9 _ rfl
      have Rf9 := oR.ok 9 (by simp)
      have R10 := oR.at 10 _ rfl
      have Rf10 := oR.ok 10 (by simp)
      have R11 := oR.at 11 _ rfl
      have Rf11 := oR.ok 11 (by simp)
      have R12 := oR.at 12 _ rfl
      have Rf12 := oR.ok 12 (by simp)
      have R13 := oR.at 13 _ rfl
      have Rf13 := oR.ok 13 (by simp)
      have R14 := oR.at 14 _ rfl
      have Rf14 := oR.ok 14 (by simp)
      have Rl := oR.lt
      clear oR
      go_wp2_with (fail)
      change bodyPost _ _ _ _ _ (W0.setCells R 0 [.int .u64 0, .int .i64 0, .int .u32 0, .int .u8 0, .int .u8 0, .int .u8 0, .int .u8 0, .int .u8 0, .int .u8 0, .int .u8 0, .int .u8 0, .int .u32 0, .int .u32 0, .int .i64 0, .int .i64 0])
      have HR9 : Own R [.int .u64 0, .int .i64 0, .int .u32 0, .int .u8 0, .int .u8 0, .int .u8 0, .int .u8 0, .int .u8 0, .int .u8 0, .int .u8 0, .int .u8 0, .int .u32 0, .int .u32 0, .int .i64 0, .int .i64 0] (W0.setCells R 0 [.int .u64 0, .int .i64 0, .int .u32 0, .int .u8 0, .int .u8 0, .int .u8 0, .int .u8 0, .int .u8 0, .int .u8 0, .int .u8 0, .int .u8 0, .int .u32 0, .int .u32 0, .int .i64 0, .int .i64 0]) := Own.store HR.out rfl
      have HB9 : Below w.heap.size w (W0.setCells R 0 [.int .u64 0, .int .i64 0, .int .u32 0, .int .u8 0, .int .u8 0, .int .u8 0, .int .u8 0, .int .u8 0, .int .u8 0, .int .u8 0, .int .u8 0, .int .u32 0, .int .u32 0, .int .i64 0, .int .i64 0]) := Below.setCells HB0.out Rw _ _
      have hL := run_loadVar_mid (P := Tryd.prog) _ R 0 26 [.int .u64 0, .int .i64 0, .int .u32 0, .int .u8 0, .int .u8 0, .int .u8 0, .int .u8 0, .int .u8 0, .int .u8 0, .int .u8 0, .int .u8 0, .int .u32 0, .int .u32 0, .int .i64 0, .int .i64 0] _ HR9.cell Tryd.underlying26 rfl (by kernel_rfl)
      exact bodyPost_ret (v := .tuple #[.agg ([.int .u64 0, .int .i64 0, .int .u32 0, .int .u8 0, .int .u8 0, .int .u8 0, .int .u8 0, .int .u8 0, .int .u8 0, .int .u8 0, .int .u8 0, .int .u32 0, .int .u32 0, .int .i64 0, .int .i64 0] : List Value).toArray, .int .i64 5]) (res_two Tryd.results19 rfl hL rfl) rfl ⟨rfl, HB9⟩
set_option maxHeartbeats 16000000 in
theorem RDecode_yes (F : Nat → Int) (q : Option Addr) (N c : Nat) (hN : N = 35) (hF : ∀ j, j < N → inB (F j)) (hNc : N ≤ c) (hcx : c ≤ 9223372036854775807) (w : World) (hq : Byt w q N F) (hE : decE F N = 0) :
    Calls Tryd.prog 19 #[.slice q N c] w fun e w' => e = .returned (.tuple #[(.agg #[.int .u64 (valN F N 0 8), .int .i64 (valN F N 8 1), .int .u32 (valN F N 9 4), .int .u8 (mskN F N 0), .int .u8 (mskN F N 1), .int .u8 (mskN F N 2), .int .u8 (mskN F N 3), .int .u8 (mskN F N 4), .int .u8 (mskN F N 5), .int .u8 (mskN F N 6), .int .u8 (mskN F N 7), .int .u32 (valN F N 21 4), .int .u32 (valN F N 25 4), .int .i64 (valN F N 29 4), .int .i64 (valN F N 33 2)]), .int .i64 0]) ∧ Below w.heap.size w w' := by
  subst hN
  have eE : decE F 35 = checkF (valN F 35 8 1) (mskN F 35) (valN F 35 21 4) (valN F 35 25 4) (valN F 35 29 4) (valN F 35 33 2) := rfl
  rw [eE] at hE
  have HC := Lib.hid hNc; have HCX := Lib.hid hcx
  clear hNc hcx eE
  obtain ⟨D, off, rfl, hd⟩ := hq.resolve_left (by decide)
  have Dw := hd.lt
  have HQ := Lib.hid hd
  have p8 := pw_vals.2.2.2.2.2.2.2; have p1 := pw_vals.1; have p4 := pw_vals.2.2.2.1; have p2 := pw_vals.2.1
  have b1 := in_valN hF 8 1; have b2 := in_valN hF 9 4; have b3 := Lib.hid (fun j => in_valN hF (13 + j) 1); have b4 := in_valN hF 21 4; have b5 := in_valN hF 25 4; have b6 := in_valN hF 29 4; have b7 := in_valN hF 33 2
  rw [p1] at b1
  rw [p4] at b2 b4 b5 b6
  rw [p2] at b7
  have Sx0 := Lib.hid (fun S w h => RNum_next (S := S) (D := D) (N := 35) (t := 0) (F := F) (w := w) 8 8 8 rfl rfl (by decide) (by decide) (by decide) hF h)
  have Sx1 := Lib.hid (fun S w h => RNum_next (S := S) (D := D) (N := 35) (t := 8) (F := F) (w := w) 1 9 1 rfl rfl (by decide) (by decide) (by decide) hF h)
  have Sx2 := Lib.hid (fun S w h => RNum_next (S := S) (D := D) (N := 35) (t := 9) (F := F) (w := w) 4 13 4 rfl rfl (by decide) (by decide) (by decide) hF h)
  have Sx4 := Lib.hid (fun S w h => RNum_next (S := S) (D := D) (N := 35) (t := 21) (F := F) (w := w) 4 25 4 rfl rfl (by decide) (by decide) (by decide) hF h)
  have Sx5 := Lib.hid (fun S w h => RNum_next (S := S) (D := D) (N := 35) (t := 25) (F := F) (w := w) 4 29 4 rfl rfl (by decide) (by decide) (by decide) hF h)
  have Sx6 := Lib.hid (fun S w h => RNum_next (S := S) (D := D) (N := 35) (t := 29) (F := F) (w := w) 4 33 4 rfl rfl (by decide) (by decide) (by decide) hF h)
  have Sx7 := Lib.hid (fun S w h => RNum_next (S := S) (D := D) (N := 35) (t := 33) (F := F) (w := w) 2 35 2 rfl rfl (by decide) (by decide) (by decide) hF h)
  have SG : Hid (∀ k, k < 8 → ∀ S w, RRd w S D F 35 (13 + k) 0 → Calls Tryd.prog 28 #[.pointer (some ⟨S, 0, none⟩), .int .i64 1] w fun e w' => e = .returned (.int .u64 (mskN F 35 k)) ∧ RRd w' S D F 35 (13 + (k + 1)) 0 ∧ But S w w') := Lib.hid (fun k hk S w h => RNum_next (S := S) (D := D) (N := 35) (t := 13 + k) (F := F) (w := w) 1 (13 + (k + 1)) 1 rfl (by omega) (by decide) (by decide) (by omega) hF h)
  have RG := Lib.hid (fun j => show IntKind.u8.wrap (mskN F 35 j) = mskN F 35 j by have := b3.out j; rw [p1] at this; rw [IntKind.wrap_u8']; unfold mskN; omega)
  have MO := Lib.hid (fun x0 x1 x2 k hk => msk_over x0 x1 x2 (mskN F 35) 0 0 0 0 k hk)
  clear hF hq hd b3
  generalize valN F 35 0 8 = x0 at *
  generalize valN F 35 8 1 = x1 at *
  generalize valN F 35 9 4 = x2 at *
  generalize valN F 35 21 4 = x4 at *
  generalize valN F 35 25 4 = x5 at *
  generalize valN F 35 29 4 = x6 at *
  generalize valN F 35 33 2 = x7 at *
  generalize mskN F 35 = G at *
  have CK := Lib.hid (RCheck_any x0 x1 x2 G x4 x5 x6 x7 (by omega))
  have r1 : IntKind.i64.wrap x1 = x1 := IntWalk.i64_in _ (by omega)
  have r2 : IntKind.u32.wrap x2 = x2 := IntWalk.u32_in _ (by omega)
  have r4 : IntKind.u32.wrap x4 = x4 := IntWalk.u32_in _ (by omega)
  have r5 : IntKind.u32.wrap x5 = x5 := IntWalk.u32_in _ (by omega)
  have r6 : IntKind.i64.wrap x6 = x6 := IntWalk.i64_in _ (by omega)
  have r7 : IntKind.i64.wrap x7 = x7 := IntWalk.i64_in _ (by omega)
  clear b1 b2 b4 b5 b6 b7 p8 p1 p4 p2
  rw [hE] at CK
  clear hE
  go_enter Tryd.func19, Tryd.ntmps19
  go_upto_region 1 with fail
  obtain ⟨W0, hW⟩ : ∃ W0, W0 = (w.alloc (.cells #[.int .u64 0, .int .i64 0, .int .u32 0, .int .u8 0, .int .u8 0, .int .u8 0, .int .u8 0, .int .u8 0, .int .u8 0, .int .u8 0, .int .u8 0, .int .u32 0, .int .u32 0, .int .i64 0, .int .i64 0] 26)) := ⟨_, rfl⟩
  have hB0 : Below w.heap.size w W0 := hW ▸ (Below.al (Below.refl _ _))
  have HR : Hid (Own w.heap.size ([.int .u64 0, .int .i64 0, .int .u32 0, .int .u8 0, .int .u8 0, .int .u8 0, .int .u8 0, .int .u8 0, .int .u8 0, .int .u8 0, .int .u8 0, .int .u32 0, .int .u32 0, .int .i64 0, .int .i64 0]) W0) := Lib.hid (hW ▸ (show Own w.heap.size ([.int .u64 0, .int .i64 0, .int .u32 0, .int .u8 0, .int .u8 0, .int .u8 0, .int .u8 0, .int .u8 0, .int .u8 0, .int .u8 0, .int .u8 0, .int .u32 0, .int .u32 0, .int .i64 0, .int .i64 0]) (w.alloc (.cells #[.int .u64 0, .int .i64 0, .int .u32 0, .int .u8 0, .int .u8 0, .int .u8 0, .int .u8 0, .int .u8 0, .int .u8 0, .int .u8 0, .int .u8 0, .int .u32 0, .int .u32 0, .int .i64 0, .int .i64 0] 26)) from Own.newAt (by simp)))
  rw [← hW]
  clear hW
  obtain ⟨R, eR⟩ : ∃ X, X = w.heap.size := ⟨_, rfl⟩
  rw [← eR] at HR ⊢
  have Rw : w.heap.size ≤ R := by omega
  clear eR
  have HQ0 := Lib.hid (HQ.out.later hB0)
  clear HQ
  go_upto_region 6 with fail
  obtain ⟨w1, hW⟩ : ∃ w1, w1 = (W0.alloc (.cells #[.slice (some ⟨D, off, none⟩) 35 c, .int .i64 0, .int .i64 0] 61)) := ⟨_, rfl⟩
  have hBx : Below W0.heap.size W0 w1 := hW ▸ (Below.al (Below.refl _ _))
  have HS : Hid (Own W0.heap.size ([.slice (some ⟨D, off, none⟩) 35 c, .int .i64 0, .int .i64 0]) w1) := Lib.hid (hW ▸ (show Own W0.heap.size ([.slice (some ⟨D, off, none⟩) 35 c, .int .i64 0, .int .i64 0]) (W0.alloc (.cells #[.slice (some ⟨D, off, none⟩) 35 c, .int .i64 0, .int .i64 0] 61)) from Own.newAt (by simp)))
  rw [← hW]
  clear hW
  obtain ⟨S, eS⟩ : ∃ X, X = W0.heap.size := ⟨_, rfl⟩
  rw [← eS] at HS ⊢
  have Sw : W0.heap.size ≤ S := by omega
  clear eS
  have nSR : S ≠ R := by have := HR.out.lt; omega
  have nRS : R ≠ S := Ne.symm nSR
  have Sw2 : w.heap.size ≤ S := by have := hB0.size; omega
  clear Sw
  have Sw := Sw2
  clear Sw2
  have HRk := Lib.hid (HR.out.later hBx)
  clear HR
  have HR := HRk
  clear HRk
  have HQ1 := Lib.hid (HQ0.out.later hBx)
  have hB0n := Below.go hB0 hBx
  clear hB0 hBx
  have hB0 := hB0n
  clear hB0n
  have nDS : D ≠ S := by omega
  have HD0 : Hid (RRd w1 S D F 35 0 0) := Lib.hid ⟨⟨some ⟨D, off, none⟩, c, HS.out, .inr ⟨off, rfl, nDS, HQ1.out⟩, HC.out, HCX.out⟩, Nat.zero_le _⟩
  have HB0 := Lib.hid hB0
  clear HS HQ0 HQ1 hB0
  go_wp2_with (fail)
  go_at_call 28
  refine (Sx0.out S _ HD0.out).mono ?_
  rintro e w2 ⟨rfl, h1, h2⟩
  have HD1 := Lib.hid h1
  have HR1 := Lib.hid (HR.out.but h2 nRS)
  have HB1 := Lib.hid (HB0.out.trans (h2.below.mono Sw))
  clear h1 h2 HD0 HB0 HR
  have HR := HR1
  clear HR1
  go_wp2_with (fail)
  go_at_call 28
  refine (Sx1.out S _ HD1.out).mono ?_
  rintro e w3 ⟨rfl, h1, h2⟩
  have HD2 := Lib.hid h1
  have HR1 := Lib.hid (HR.out.but h2 nRS)
  have HB2 := Lib.hid (HB1.out.trans (h2.below.mono Sw))
  clear h1 h2 HD1 HB1 HR
  have HR := HR1
  clear HR1
  go_wp2_with (fail)
  go_at_call 28
  refine (Sx2.out S _ HD2.out).mono ?_
  rintro e w4 ⟨rfl, h1, h2⟩
  have HD3 := Lib.hid h1
  have HR1 := Lib.hid (HR.out.but h2 nRS)
  have HB3 := Lib.hid (HB2.out.trans (h2.below.mono Sw))
  clear h1 h2 HD2 HB2 HR
  have HR := HR1
  clear HR1
  have hB3 := HB3.out
  clear HB3
  have Sl4 := HD3.out.lt
  go_upto_region 7 with fail
  obtain ⟨w5, hW⟩ : ∃ w5, w5 = (w4.alloc (.cells #[.int .u64 x0, .int .i64 x1, .int .u32 x2, .int .u8 0, .int .u8 0, .int .u8 0, .int .u8 0, .int .u8 0, .int .u8 0, .int .u8 0, .int .u8 0, .int .u32 0, .int .u32 0, .int .i64 0, .int .i64 0] 26)) := ⟨_, rfl⟩
  have hBx : Below w4.heap.size w4 w5 := hW ▸ (Below.al (Below.refl _ _))
  have HX : Hid (Own w4.heap.size ([.int .u64 x0, .int .i64 x1, .int .u32 x2, .int .u8 0, .int .u8 0, .int .u8 0, .int .u8 0, .int .u8 0, .int .u8 0, .int .u8 0, .int .u8 0, .int .u32 0, .int .u32 0, .int .i64 0, .int .i64 0]) w5) := Lib.hid (hW ▸ (show Own w4.heap.size ([.int .u64 x0, .int .i64 x1, .int .u32 x2, .int .u8 0, .int .u8 0, .int .u8 0, .int .u8 0, .int .u8 0, .int .u8 0, .int .u8 0, .int .u8 0, .int .u32 0, .int .u32 0, .int .i64 0, .int .i64 0]) (w4.alloc (.cells #[.int .u64 x0, .int .i64 x1, .int .u32 x2, .int .u8 0, .int .u8 0, .int .u8 0, .int .u8 0, .int .u8 0, .int .u8 0, .int .u8 0, .int .u8 0, .int .u32 0, .int .u32 0, .int .i64 0, .int .i64 0] 26)) from Own.newAt (by simp)))
  rw [← hW]
  clear hW
  obtain ⟨X, eX⟩ : ∃ X, X = w4.heap.size := ⟨_, rfl⟩
  rw [← eX] at HX ⊢
  have Xw : w4.heap.size ≤ X := by omega
  clear eX
  have nXR : X ≠ R := by have := HR.out.lt; omega
  have nRX : R ≠ X := Ne.symm nXR
  have nXS : X ≠ S := by omega
  have Xw2 : w.heap.size ≤ X := by have := hB3.size; omega
  clear Xw
  have Xw := Xw2
  clear Xw2
  have HRk := Lib.hid (HR.out.later hBx)
  clear HR
  have HR := HRk
  clear HRk
  have HD4 := Lib.hid (HD3.out.later hBx)
  have hB3n := Below.go hB3 hBx
  clear hB3 hBx
  have hB3 := hB3n
  clear hB3n
  have nSX : S ≠ X := Ne.symm nXS
  have nDX : D ≠ X := by omega
  have HB4 := Lib.hid hB3
  clear hB3 HD3 Sl4
  have HMS : Hid (Own X [.int .u64 x0, .int .i64 x1, .int .u32 x2, .int .u8 (mskF G 0 0), .int .u8 (mskF G 0 1), .int .u8 (mskF G 0 2), .int .u8 (mskF G 0 3), .int .u8 (mskF G 0 4), .int .u8 (mskF G 0 5), .int .u8 (mskF G 0 6), .int .u8 (mskF G 0 7), .int .u32 0, .int .u32 0, .int .i64 0, .int .i64 0] w5) := Lib.hid (show Own X [.int .u64 x0, .int .i64 x1, .int .u32 x2, .int .u8 0, .int .u8 0, .int .u8 0, .int .u8 0, .int .u8 0, .int .u8 0, .int .u8 0, .int .u8 0, .int .u32 0, .int .u32 0, .int .i64 0, .int .i64 0] w5 from HX.out)
  clear HX
  go_wp2_with (fail)
  go_loopw [6] (fun iv wr => ∃ (k : Nat), k ≤ 8 ∧ iv = .int .i64 k ∧ Hid (RRd wr S D F 35 (13 + k) 0) ∧ Hid (Own X [.int .u64 x0, .int .i64 x1, .int .u32 x2, .int .u8 (mskF G k 0), .int .u8 (mskF G k 1), .int .u8 (mskF G k 2), .int .u8 (mskF G k 3), .int .u8 (mskF G k 4), .int .u8 (mskF G k 5), .int .u8 (mskF G k 6), .int .u8 (mskF G k 7), .int .u32 0, .int .u32 0, .int .i64 0, .int .i64 0] wr) ∧ Hid (Own R [.int .u64 0, .int .i64 0, .int .u32 0, .int .u8 0, .int .u8 0, .int .u8 0, .int .u8 0, .int .u8 0, .int .u8 0, .int .u8 0, .int .u8 0, .int .u32 0, .int .u32 0, .int .i64 0, .int .i64 0] wr) ∧ Hid (Below w.heap.size w wr)) (fun iv _ => (8 - (intOf iv).toNat))
  case atStart => exact ⟨0, Nat.zero_le _, rfl, HD4, HMS, HR, HB4⟩
  case round =>
    clear HD4 HMS HR HB4
    obtain ⟨k, hk, rfl, HD, HM, HR, HB⟩ := hrel
    by_cases hlt : k < 8
    · have hki : (k : Int) < 8 := by omega
      have k0 : (0 : Int) ≤ (k : Int) := by omega
      have wk : IntKind.i64.wrap ((k : Int) + 1) = (k : Int) + 1 := IntWalk.i64_in _ (by omega)
      have HLT := Lib.hid (show k + 1 ≤ 8 by omega)
      have rx := RG.out k
      have SK := Lib.hid (SG.out k hlt)
      have MOk := Lib.hid (MO.out x0 x1 x2 k hlt)
      generalize G k = x at rx SK MOk
      clear hlt hk RG SG MO CK Sx0 Sx1 Sx2 Sx4 Sx5 Sx6 Sx7
      go_wp2_with (fail)
      go_at_call 28
      refine (SK.out S _ HD.out).mono ?_
      rintro e y1 ⟨rfl, h1, h2⟩
      have HD1 := Lib.hid h1
      have HM1 := Lib.hid (HM.out.but h2 nXS)
      have HR1 := Lib.hid (HR.out.but h2 nRS)
      have HB1 := Lib.hid (HB.out.trans (h2.below.mono Sw))
      have Mf := HM1.out.ok (3 + k) (by have := HLT.out; simp; omega)
      have Mc := HM1.out.at (3 + k) _ (mask_cell x0 x1 x2 (mskF G k) 0 0 0 0 k (by have := HLT.out; omega))
      have Ml := HM1.out.lt
      clear h1 h2 HD HB HM HR
      go_upto_region 9 with fail
      rw [show y1.setCell ⟨X, 3 + k, none⟩ (.int .u8 x) = y1.setCells X (3 + k) [.int .u8 x] from rfl]
      have HM : Hid (Own X [.int .u64 x0, .int .i64 x1, .int .u32 x2, .int .u8 (mskF G (k + 1) 0), .int .u8 (mskF G (k + 1) 1), .int .u8 (mskF G (k + 1) 2), .int .u8 (mskF G (k + 1) 3), .int .u8 (mskF G (k + 1) 4), .int .u8 (mskF G (k + 1) 5), .int .u8 (mskF G (k + 1) 6), .int .u8 (mskF G (k + 1) 7), .int .u32 0, .int .u32 0, .int .i64 0, .int .i64 0] (y1.setCells X (3 + k) [.int .u8 x])) := Lib.hid (by rw [← MOk.out]; exact Own.part HM1.out (by have := HLT.out; simp; omega))
      have hbm : But X y1 (y1.setCells X (3 + k) [.int .u8 x]) := But.store
      have HD2 := Lib.hid (HD1.out.far hbm nSX nDX)
      have HR2 := Lib.hid (HR1.out.but hbm nRX)
      have HB2 := Lib.hid (Below.setCells HB1.out Xw [.int .u8 x] (3 + k))
      clear hbm HD1 HB1 HM1 HR1 Mf Ml Mc
      generalize y1.setCells X (3 + k) [.int .u8 x] = y2 at *
      go_wp2_with (fail)
      go_roundw
      case rel => (first | exact ⟨k + 1, HLT.out, by go_num, HD2, HM, HR2, HB2⟩ | ((repeat apply Exists.intro); exact ⟨⟨k + 1, HLT.out, by go_num, HD2, HM, HR2, HB2⟩, rfl⟩))
      case measure => (have := HLT.out; simp [intOf]; omega)
    · obtain rfl : k = 8 := by omega
      clear hlt hk RG SG MO
      have HMS : Hid (Own X [.int .u64 x0, .int .i64 x1, .int .u32 x2, .int .u8 (G 0), .int .u8 (G 1), .int .u8 (G 2), .int .u8 (G 3), .int .u8 (G 4), .int .u8 (G 5), .int .u8 (G 6), .int .u8 (G 7), .int .u32 0, .int .u32 0, .int .i64 0, .int .i64 0] wr) := Lib.hid (show Own X [.int .u64 x0, .int .i64 x1, .int .u32 x2, .int .u8 (mskF G 8 0), .int .u8 (mskF G 8 1), .int .u8 (mskF G 8 2), .int .u8 (mskF G 8 3), .int .u8 (mskF G 8 4), .int .u8 (mskF G 8 5), .int .u8 (mskF G 8 6), .int .u8 (mskF G 8 7), .int .u32 0, .int .u32 0, .int .i64 0, .int .i64 0] wr from HM.out)
      have HD20 : Hid (RRd wr S D F 35 21 0) := Lib.hid HD.out
      have HB20 := Lib.hid HB.out
      clear HM HD HB
      have HM := HMS
      clear HMS
      go_wp2_with (fail)
      go_at_call 28
      refine (Sx4.out S _ HD20.out).mono ?_
      rintro e y1 ⟨rfl, h1, h2⟩
      have HD21 := Lib.hid h1
      have HM1 := Lib.hid (HM.out.but h2 nXS)
      have HR1 := Lib.hid (HR.out.but h2 nRS)
      have HB21 := Lib.hid (HB20.out.trans (h2.below.mono Sw))
      have Mf := HM1.out.ok 11 (by simp)
      have Mc := HM1.out.at 11 _ rfl
      have Ml := HM1.out.lt
      clear h1 h2 HD20 HB20 HM HR
      go_upto_region 12 with fail
      rw [show y1.setCell ⟨X, 11, none⟩ (.int .u32 x4) = y1.setCells X 11 [.int .u32 x4] from rfl]
      have HM : Hid (Own X [.int .u64 x0, .int .i64 x1, .int .u32 x2, .int .u8 (G 0), .int .u8 (G 1), .int .u8 (G 2), .int .u8 (G 3), .int .u8 (G 4), .int .u8 (G 5), .int .u8 (G 6), .int .u8 (G 7), .int .u32 x4, .int .u32 0, .int .i64 0, .int .i64 0] (y1.setCells X 11 [.int .u32 x4])) := Lib.hid (show Own X (over _ 11 [.int .u32 x4]) _ from Own.part HM1.out (by simp))
      have hbm : But X y1 (y1.setCells X 11 [.int .u32 x4]) := But.store
      have HR := Lib.hid (HR1.out.but hbm nRX)
      have HD22 := Lib.hid (HD21.out.far hbm nSX nDX)
      have HB22 := Lib.hid (Below.setCells HB21.out Xw [.int .u32 x4] 11)
      clear hbm HD21 HB21 HM1 HR1 Mf Ml Mc
      generalize y1.setCells X 11 [.int .u32 x4] = V1 at *
      go_wp2_with (fail)
      go_at_call 28
      refine (Sx5.out S _ HD22.out).mono ?_
      rintro e y1 ⟨rfl, h1, h2⟩
      have HD23 := Lib.hid h1
      have HM1 := Lib.hid (HM.out.but h2 nXS)
      have HR1 := Lib.hid (HR.out.but h2 nRS)
      have HB23 := Lib.hid (HB22.out.trans (h2.below.mono Sw))
      have Mf := HM1.out.ok 12 (by simp)
      have Mc := HM1.out.at 12 _ rfl
      have Ml := HM1.out.lt
      clear h1 h2 HD22 HB22 HM HR
      go_upto_region 13 with fail
      rw [show y1.setCell ⟨X, 12, none⟩ (.int .u32 x5) = y1.setCells X 12 [.int .u32 x5] from rfl]
      have HM : Hid (Own X [.int .u64 x0, .int .i64 x1, .int .u32 x2, .int .u8 (G 0), .int .u8 (G 1), .int .u8 (G 2), .int .u8 (G 3), .int .u8 (G 4), .int .u8 (G 5), .int .u8 (G 6), .int .u8 (G 7), .int .u32 x4, .int .u32 x5, .int .i64 0, .int .i64 0] (y1.setCells X 12 [.int .u32 x5])) := Lib.hid (show Own X (over _ 12 [.int .u32 x5]) _ from Own.part HM1.out (by simp))
      have hbm : But X y1 (y1.setCells X 12 [.int .u32 x5]) := But.store
      have HR := Lib.hid (HR1.out.but hbm nRX)
      have HD24 := Lib.hid (HD23.out.far hbm nSX nDX)
      have HB24 := Lib.hid (Below.setCells HB23.out Xw [.int .u32 x5] 12)
      clear hbm HD23 HB23 HM1 HR1 Mf Ml Mc
      generalize y1.setCells X 12 [.int .u32 x5] = V2 at *
      go_wp2_with (fail)
      go_at_call 28
      refine (Sx6.out S _ HD24.out).mono ?_
      rintro e y1 ⟨rfl, h1, h2⟩
      have HD25 := Lib.hid h1
      have HM1 := Lib.hid (HM.out.but h2 nXS)
      have HR1 := Lib.hid (HR.out.but h2 nRS)
      have HB25 := Lib.hid (HB24.out.trans (h2.below.mono Sw))
      have Mf := HM1.out.ok 13 (by simp)
      have Mc := HM1.out.at 13 _ rfl
      have Ml := HM1.out.lt
      clear h1 h2 HD24 HB24 HM HR
      go_upto_region 14 with fail
      rw [show y1.setCell ⟨X, 13, none⟩ (.int .i64 x6) = y1.setCells X 13 [.int .i64 x6] from rfl]
      have HM : Hid (Own X [.int .u64 x0, .int .i64 x1, .int .u32 x2, .int .u8 (G 0), .int .u8 (G 1), .int .u8 (G 2), .int .u8 (G 3), .int .u8 (G 4), .int .u8 (G 5), .int .u8 (G 6), .int .u8 (G 7), .int .u32 x4, .int .u32 x5, .int .i64 x6, .int .i64 0] (y1.setCells X 13 [.int .i64 x6])) := Lib.hid (show Own X (over _ 13 [.int .i64 x6]) _ from Own.part HM1.out (by simp))
      have hbm : But X y1 (y1.setCells X 13 [.int .i64 x6]) := But.store
      have HR := Lib.hid (HR1.out.but hbm nRX)
      have HD26 := Lib.hid (HD25.out.far hbm nSX nDX)
      have HB26 := Lib.hid (Below.setCells HB25.out Xw [.int .i64 x6] 13)
      clear hbm HD25 HB25 HM1 HR1 Mf Ml Mc
      generalize y1.setCells X 13 [.int .i64 x6] = V3 at *
      go_wp2_with (fail)
      go_at_call 28
      refine (Sx7.out S _ HD26.out).mono ?_
      rintro e y1 ⟨rfl, h1, h2⟩
      have HD27 := Lib.hid h1
      have HM1 := Lib.hid (HM.out.but h2 nXS)
      have HR1 := Lib.hid (HR.out.but h2 nRS)
      have HB27 := Lib.hid (HB26.out.trans (h2.below.mono Sw))
      have Mf := HM1.out.ok 14 (by simp)
      have Mc := HM1.out.at 14 _ rfl
      have Ml := HM1.out.lt
      clear h1 h2 HD26 HB26 HM HR
      go_upto_region 15 with fail
      rw [show y1.setCell ⟨X, 14, none⟩ (.int .i64 x7) = y1.setCells X 14 [.int .i64 x7] from rfl]
      have HM : Hid (Own X [.int .u64 x0, .int .i64 x1, .int .u32 x2, .int .u8 (G 0), .int .u8 (G 1), .int .u8 (G 2), .int .u8 (G 3), .int .u8 (G 4), .int .u8 (G 5), .int .u8 (G 6), .int .u8 (G 7), .int .u32 x4, .int .u32 x5, .int .i64 x6, .int .i64 x7] (y1.setCells X 14 [.int .i64 x7])) := Lib.hid (show Own X (over _ 14 [.int .i64 x7]) _ from Own.part HM1.out (by simp))
      have hbm : But X y1 (y1.setCells X 14 [.int .i64 x7]) := But.store
      have HR := Lib.hid (HR1.out.but hbm nRX)
      have HD28 := Lib.hid (HD27.out.far hbm nSX nDX)
      have HB28 := Lib.hid (Below.setCells HB27.out Xw [.int .i64 x7] 14)
      clear hbm HD27 HB27 HM1 HR1 Mf Ml Mc
      generalize y1.setCells X 14 [.int .i64 x7] = V4 at *
      have oX := HM.out
      have X0 := oX.at 0 _ rfl
      have X1 := oX.at 1 _ rfl
      have X2 := oX.at 2 _ rfl
      have X3 := oX.at 3 _ rfl
      have X4 := oX.at 4 _ rfl
      have X5 := oX.at 5 _ rfl
      have X6 := oX.at 6 _ rfl
      have X7 := oX.at 7 _ rfl
      have X8 := oX.at 8 _ rfl
      have X9 := oX.at 9 _ rfl
      have X10 := oX.at 10 _ rfl
      have X11 := oX.at 11 _ rfl
      have X12 := oX.at 12 _ rfl
      have X13 := oX.at 13 _ rfl
      have X14 := oX.at 14 _ rfl
      have Xl := oX.lt
      clear oX
      go_wp2_with (fail)
      go_at_call 13
      refine (CK.out _).mono ?_
      rintro e w9 ⟨rfl, hb⟩
      have HR5 := Lib.hid (HR.out.later hb)
      have HX5 := Lib.hid (HM.out.later hb)
      have HB5 := Lib.hid (Below.go HB28.out hb)
      clear hb CK HR HM HB28 HD28 X0 X1 X2 X3 X4 X5 X6 X7 X8 X9 X10 X11 X12 X13 X14 Xl
      have oX := HX5.out
      have X0 := oX.at 0 _ rfl
      have X1 := oX.at 1 _ rfl
      have X2 := oX.at 2 _ rfl
      have X3 := oX.at 3 _ rfl
      have X4 := oX.at 4 _ rfl
      have X5 := oX.at 5 _ rfl
      have X6 := oX.at 6 _ rfl
      have X7 := oX.at 7 _ rfl
      have X8 := oX.at 8 _ rfl
      have X9 := oX.at 9 _ rfl
      have X10 := oX.at 10 _ rfl
      have X11 := oX.at 11 _ rfl
      have X12 := oX.at 12 _ rfl
      have X13 := oX.at 13 _ rfl
      have X14 := oX.at 14 _ rfl
      have Xl := oX.lt
      clear oX
      have oR := HR5.out
      have R0 := oR.at 0 _ rfl
      have Rf0 := oR.ok 0 (by simp)
      have R1 := oR.at 1 _ rfl
      have Rf1 := oR.ok 1 (by simp)
      have R2 := oR.at 2 _ rfl
      have Rf2 := oR.ok 2 (by simp)
      have R3 := oR.at 3 _ rfl
      have Rf3 := oR.ok 3 (by simp)
      have R4 := oR.at 4 _ rfl
      have Rf4 := oR.ok 4 (by simp)
      have R5 := oR.at 5 _ rfl
      have Rf5 := oR.ok 5 (by simp)
      have R6 := oR.at 6 _ rfl
      have Rf6 := oR.ok 6 (by simp)
      have R7 := oR.at 7 _ rfl
      have Rf7 := oR.ok 7 (by simp)
      have R8 := oR.at 8 _ rfl
      have Rf8 := oR.ok 8 (by simp)
      have R9 := oR.at 9 _ rfl
      have Rf9 := oR.ok 9 (by simp)
      have R10 := oR.at 10 _ rfl
      have Rf10 := oR.ok 10 (by simp)
      have R11 := oR.at 11 _ rfl
      have Rf11 := oR.ok 11 (by simp)
      have R12 := oR.at 12 _ rfl
      have Rf12 := oR.ok 12 (by simp)
      have R13 := oR.at 13 _ rfl
      have Rf13 := oR.ok 13 (by simp)
      have R14 := oR.at 14 _ rfl
      have Rf14 := oR.ok 14 (by simp)
      have Rl := oR.lt
      clear oR
      go_wp2_with (fail)
      change bodyPost _ _ _ _ _ (w9.setCells R 0 [.int .u64 x0, .int .i64 x1, .int .u32 x2, .int .u8 (G 0), .int .u8 (G 1), .int .u8 (G 2), .int .u8 (G 3), .int .u8 (G 4), .int .u8 (G 5), .int .u8 (G 6), .int .u8 (G 7), .int .u32 x4, .int .u32 x5, .int .i64 x6, .int .i64 x7])
      have HR9 : Own R [.int .u64 x0, .int .i64 x1, .int .u32 x2, .int .u8 (G 0), .int .u8 (G 1), .int .u8 (G 2), .int .u8 (G 3), .int .u8 (G 4), .int .u8 (G 5), .int .u8 (G 6), .int .u8 (G 7), .int .u32 x4, .int .u32 x5, .int .i64 x6, .int .i64 x7] (w9.setCells R 0 [.int .u64 x0, .int .i64 x1, .int .u32 x2, .int .u8 (G 0), .int .u8 (G 1), .int .u8 (G 2), .int .u8 (G 3), .int .u8 (G 4), .int .u8 (G 5), .int .u8 (G 6), .int .u8 (G 7), .int .u32 x4, .int .u32 x5, .int .i64 x6, .int .i64 x7]) := Own.store HR5.out rfl
      have HB9 : Below w.heap.size w (w9.setCells R 0 [.int .u64 x0, .int .i64 x1, .int .u32 x2, .int .u8 (G 0), .int .u8 (G 1), .int .u8 (G 2), .int .u8 (G 3), .int .u8 (G 4), .int .u8 (G 5), .int .u8 (G 6), .int .u8 (G 7), .int .u32 x4, .int .u32 x5, .int .i64 x6, .int .i64 x7]) := Below.setCells HB5.out Rw _ _
      have hL := run_loadVar_mid (P := Tryd.prog) _ R 0 26 [.int .u64 x0, .int .i64 x1, .int .u32 x2, .int .u8 (G 0), .int .u8 (G 1), .int .u8 (G 2), .int .u8 (G 3), .int .u8 (G 4), .int .u8 (G 5), .int .u8 (G 6), .int .u8 (G 7), .int .u32 x4, .int .u32 x5, .int .i64 x6, .int .i64 x7] _ HR9.cell Tryd.underlying26 rfl (by kernel_rfl)
      exact bodyPost_ret (v := .tuple #[.agg ([.int .u64 x0, .int .i64 x1, .int .u32 x2, .int .u8 (G 0), .int .u8 (G 1), .int .u8 (G 2), .int .u8 (G 3), .int .u8 (G 4), .int .u8 (G 5), .int .u8 (G 6), .int .u8 (G 7), .int .u32 x4, .int .u32 x5, .int .i64 x6, .int .i64 x7] : List Value).toArray, .int .i64 0]) (res_two Tryd.results19 rfl hL rfl) rfl ⟨rfl, HB9⟩
end Go.Proofs.YtapkhecebglnlaaDoor
