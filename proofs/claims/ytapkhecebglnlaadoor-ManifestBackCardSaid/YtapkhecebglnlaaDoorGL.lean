/- manifest: Decode. -/
import Derived.Test.YtapkhecebglnlaaDoorGK
import Derived.Test.YtapkhecebglnlaaDoorGC
import Derived.Lib.Hide
import Derived.LoopN
import Derived.LoopTactic
import Derived.Deep.Onto
import Derived.Deep.RegionHeld3
import Derived.Deep.QuietTactic
import Derived.BigQuiet
namespace Go.Proofs.YtapkhecebglnlaaDoor
set_option linter.unusedVariables false
set_option maxRecDepth 2000
set_option linter.unusedSimpArgs false
open Go.RowKit
theorem res_two {P : Program} {fn : Func} {tmps : Array Value} {w : World} {r s T : Nat} {a : Addr} {v u : Value} (hf : fn.results = #[.cell r T, .tmp s]) (ha : tmps[r]?.getD undef = .pointer (some a)) (hl : (loadVar T a).run P w = .ok v w) (hs : tmps[s]?.getD undef = u) : (results fn tmps).run P w = .ok (.tuple #[v, u]) w := by
  subst hs
  have hx : (asAddr (Value.pointer (some a))).run P w = .ok a w := by simp [asAddr]
  simp [results, hf, ha, hx, hl]
/-- the error that Decode tells -/
def decE (F : Nat → Int) (N : Nat) : Int := if N < 35 then 4 else if 35 < N then 5 else (checkF (valN F N 8 1) (mskN F N) (valN F N 21 4) (valN F N 25 4) (valN F N 29 4) (valN F N 33 2))
theorem dec_end (N : Nat) : endE N 35 (erN N 35) = if N < 35 then 4 else if 35 < N then 5 else 0 := by
  unfold endE erN
  by_cases h : 35 ≤ N
  · rw [if_pos h, if_neg (by decide), if_neg (show ¬N < 35 by omega)]
  · rw [if_neg h, if_pos (by decide), if_pos (show N < 35 by omega)]
set_option maxHeartbeats 8000000 in
theorem Decode_no (F : Nat → Int) (q : Option Addr) (N c : Nat) (hF : ∀ j, j < N → inB (F j)) (hN : N ≤ 1000) (w : World) (hg : Has 0 0 CapL w) (hq : Byt w q N F) (hE : decE F N ≠ 0) :
    Calls Tryd.prog 18 #[.slice q N c] w fun e w' => e = .returned (.tuple #[.agg #[.int .u64 0, .int .i64 0, .int .u32 0, .int .u8 0, .int .u8 0, .int .u8 0, .int .u8 0, .int .u8 0, .int .u8 0, .int .u8 0, .int .u8 0, .int .u32 0, .int .u32 0, .int .i64 0, .int .i64 0], .int .i64 (decE F N)]) ∧ Below w.heap.size w w' := by
  by_cases h35 : N = 35
  · subst h35
    have eE : decE F 35 = checkF (valN F 35 8 1) (mskN F 35) (valN F 35 21 4) (valN F 35 25 4) (valN F 35 29 4) (valN F 35 33 2) := rfl
    have EE : (if 35 < 35 then (4 : Int) else if 35 < 35 then 5 else 0) = 0 := rfl
    rw [eE] at hE ⊢
    have p4 := pw_vals.2.2.2.1
    have b6 := in_valN hF 29 4
    rw [p4] at b6
    have HG := Lib.hid hg; have HQ := Lib.hid hq
    have NW := Lib.hid (fun w hq => New_any q 35 c F (by omega) w hq)
    have MN := Lib.hid (fun K D w h hd => Man_any K D 35 F hF w h hd)
    clear hF hq hg eE
    generalize valN F 35 0 8 = x0 at *
    generalize valN F 35 8 1 = x1 at *
    generalize valN F 35 9 4 = x2 at *
    generalize valN F 35 21 4 = x4 at *
    generalize valN F 35 25 4 = x5 at *
    generalize valN F 35 29 4 = x6 at *
    generalize valN F 35 33 2 = x7 at *
    generalize mskN F 35 = G at *
    have CK := Lib.hid (Check_any x0 x1 x2 G x4 x5 x6 x7 (by omega))
    generalize checkF x1 G x4 x5 x6 x7 = z at *
    have hd : (z != 0) = true := by simpa using hE
    clear b6 p4 hE
    go_enter Tryd.func18, Tryd.ntmps18
    go_upto_region 1 with fail
    obtain ⟨W0, hW⟩ : ∃ W0, W0 = (w.alloc (.cells #[.int .u64 0, .int .i64 0, .int .u32 0, .int .u8 0, .int .u8 0, .int .u8 0, .int .u8 0, .int .u8 0, .int .u8 0, .int .u8 0, .int .u8 0, .int .u32 0, .int .u32 0, .int .i64 0, .int .i64 0] 26)) := ⟨_, rfl⟩
    have hB0 : Below w.heap.size w W0 := hW ▸ (Below.al (Below.refl _ _))
    have HR : Hid (Own w.heap.size ([.int .u64 0, .int .i64 0, .int .u32 0, .int .u8 0, .int .u8 0, .int .u8 0, .int .u8 0, .int .u8 0, .int .u8 0, .int .u8 0, .int .u8 0, .int .u32 0, .int .u32 0, .int .i64 0, .int .i64 0]) W0) := Lib.hid (hW ▸ (show Own w.heap.size ([.int .u64 0, .int .i64 0, .int .u32 0, .int .u8 0, .int .u8 0, .int .u8 0, .int .u8 0, .int .u8 0, .int .u8 0, .int .u8 0, .int .u8 0, .int .u32 0, .int .u32 0, .int .i64 0, .int .i64 0]) (w.alloc (.cells #[.int .u64 0, .int .i64 0, .int .u32 0, .int .u8 0, .int .u8 0, .int .u8 0, .int .u8 0, .int .u8 0, .int .u8 0, .int .u8 0, .int .u8 0, .int .u32 0, .int .u32 0, .int .i64 0, .int .i64 0] 26)) from Own.newAt (by simp)))
    rw [← hW]
    clear hW
    obtain ⟨R, eR⟩ : ∃ X, X = w.heap.size := ⟨_, rfl⟩
    rw [← eR] at HR ⊢
    have Rw : w.heap.size ≤ R := by omega
    clear eR
    have HG0 := Lib.hid (HG.out.later hB0)
    have HQ0 := Lib.hid (HQ.out.later hB0)
    have Rl := HR.out.lt
    clear HG HQ
    go_wp2_with (fail)
    go_at_call 25
    refine (NW.out _ HQ0.out).mono ?_
    rintro e w1 ⟨K, D, rfl, hKw, hDw, hDl, hrd, hb⟩
    have HG1 := Lib.hid (HG0.out.later hb)
    have HR1 := Lib.hid (HR.out.later hb)
    have hB1 := Below.go hB0 hb
    have nRK : R ≠ K := by omega
    have n0K : 0 ≠ K := by have := HG0.out.lt; omega
    have KW : w.heap.size ≤ K := by have := hB0.size; omega
    have Kl := hrd.lt
    have HRD := Lib.hid hrd
    clear hb hB0 HG0 HQ0 HR NW hrd hKw hDw Rl
    go_upto_region 2 with fail
    obtain ⟨w2, hW⟩ : ∃ w2, w2 = (w1.alloc (.cells #[.pointer (some ⟨K, 0, none⟩)] 56)) := ⟨_, rfl⟩
    have hBx : Below w1.heap.size w1 w2 := hW ▸ (Below.al (Below.refl _ _))
    have HP : Hid (Own w1.heap.size ([.pointer (some ⟨K, 0, none⟩)]) w2) := Lib.hid (hW ▸ (show Own w1.heap.size ([.pointer (some ⟨K, 0, none⟩)]) (w1.alloc (.cells #[.pointer (some ⟨K, 0, none⟩)] 56)) from Own.newAt (by simp)))
    rw [← hW]
    clear hW
    obtain ⟨P, eP⟩ : ∃ X, X = w1.heap.size := ⟨_, rfl⟩
    rw [← eP] at HP ⊢
    have Pw : w1.heap.size ≤ P := by omega
    clear eP
    have nPR : P ≠ R := by have := HR1.out.lt; omega
    have nRP : R ≠ P := Ne.symm nPR
    have nPK : P ≠ K := by omega
    have Pw2 : w.heap.size ≤ P := by have := hB1.size; omega
    clear Pw
    have Pw := Pw2
    clear Pw2
    have HR1k := Lib.hid (HR1.out.later hBx)
    clear HR1
    have HR1 := HR1k
    clear HR1k
    have HG2 := Lib.hid (HG1.out.later hBx)
    have HRD2 := Lib.hid (HRD.out.later hBx)
    have hDl2 := Nat.lt_of_lt_of_le hDl hBx.size
    have hB1n := Below.go hB1 hBx
    clear hB1 hBx
    have hB1 := hB1n
    clear hB1n
    clear HG1 HRD hDl Kl
    have oP := HP.out
    have P0 := oP.at 0 _ rfl
    have Pl := oP.lt
    clear oP
    go_wp2_with (fail)
    go_at_call 26
    refine (MN.out K D _ HRD2.out hDl2).mono ?_
    rintro e w3 ⟨rfl, h1, h2⟩
    have HRD3 := Lib.hid h1
    have HR3 := Lib.hid (HR1.out.but h2 nRK)
    have HP3 := Lib.hid (HP.out.but h2 nPK)
    have HG3 := Lib.hid (HG2.out.but h2 n0K)
    have hB3 := hB1.trans (h2.below.mono KW)
    clear h1 h2 HRD2 HR1 HP HG2 hB1 hDl2 P0 Pl MN
    go_upto_region 3 with fail
    obtain ⟨w4, hW⟩ : ∃ w4, w4 = (w3.alloc (.cells #[.int .u64 x0, .int .i64 x1, .int .u32 x2, .int .u8 (G 0), .int .u8 (G 1), .int .u8 (G 2), .int .u8 (G 3), .int .u8 (G 4), .int .u8 (G 5), .int .u8 (G 6), .int .u8 (G 7), .int .u32 x4, .int .u32 x5, .int .i64 x6, .int .i64 x7] 26)) := ⟨_, rfl⟩
    have hBx : Below w3.heap.size w3 w4 := hW ▸ (Below.al (Below.refl _ _))
    have HX : Hid (Own w3.heap.size ([.int .u64 x0, .int .i64 x1, .int .u32 x2, .int .u8 (G 0), .int .u8 (G 1), .int .u8 (G 2), .int .u8 (G 3), .int .u8 (G 4), .int .u8 (G 5), .int .u8 (G 6), .int .u8 (G 7), .int .u32 x4, .int .u32 x5, .int .i64 x6, .int .i64 x7]) w4) := Lib.hid (hW ▸ (show Own w3.heap.size ([.int .u64 x0, .int .i64 x1, .int .u32 x2, .int .u8 (G 0), .int .u8 (G 1), .int .u8 (G 2), .int .u8 (G 3), .int .u8 (G 4), .int .u8 (G 5), .int .u8 (G 6), .int .u8 (G 7), .int .u32 x4, .int .u32 x5, .int .i64 x6, .int .i64 x7]) (w3.alloc (.cells #[.int .u64 x0, .int .i64 x1, .int .u32 x2, .int .u8 (G 0), .int .u8 (G 1), .int .u8 (G 2), .int .u8 (G 3), .int .u8 (G 4), .int .u8 (G 5), .int .u8 (G 6), .int .u8 (G 7), .int .u32 x4, .int .u32 x5, .int .i64 x6, .int .i64 x7] 26)) from Own.newAt (by simp)))
    rw [← hW]
    clear hW
    obtain ⟨X, eX⟩ : ∃ X, X = w3.heap.size := ⟨_, rfl⟩
    rw [← eX] at HX ⊢
    have Xw : w3.heap.size ≤ X := by omega
    clear eX
    have nXR : X ≠ R := by have := HR3.out.lt; omega
    have nRX : R ≠ X := Ne.symm nXR
    have nXP : X ≠ P := by have := HP3.out.lt; omega
    have nPX : P ≠ X := Ne.symm nXP
    have Xw2 : w.heap.size ≤ X := by have := hB3.size; omega
    clear Xw
    have Xw := Xw2
    clear Xw2
    have HR3k := Lib.hid (HR3.out.later hBx)
    have HP3k := Lib.hid (HP3.out.later hBx)
    clear HR3 HP3
    have HR3 := HR3k
    clear HR3k
    have HP3 := HP3k
    clear HP3k
    have HG4 := Lib.hid (HG3.out.later hBx)
    have HRD4 := Lib.hid (HRD3.out.later hBx)
    have hB3n := Below.go hB3 hBx
    clear hB3 hBx
    have hB3 := hB3n
    clear hB3n
    have EN := Lib.hid (End_any HRD4.out)
    rw [dec_end, EE] at EN
    have HB4 := Lib.hid hB3
    clear HG3 HRD3 HRD4 hB3
    have oP := HP3.out
    have P0 := oP.at 0 _ rfl
    have Pl := oP.lt
    clear oP
    go_wp2_with (fail)
    go_at_call 27
    refine EN.out.mono ?_
    rintro e y5 ⟨rfl, hw⟩
    obtain rfl : w4 = y5 := hw.symm
    clear hw EN P0 Pl HP3
    have oX := HX.out
    have X0 := oX.at 0 _ rfl
    have X1 := oX.at 1 _ rfl
    have X2 := oX.at 2 _ rfl
    have X3 := oX.at 3 _ rfl
    have X4 := oX.at 4 _ rfl
    have X5 := oX.at 5 _ rfl
    have X6 := oX.at 6 _ rfl
    have X7 := oX.at 7 _ rfl
    have X8 := oX.at 8 _ rfl
    have X9 := oX.at 9 _ rfl
    have X10 := oX.at 10 _ rfl
    have X11 := oX.at 11 _ rfl
    have X12 := oX.at 12 _ rfl
    have X13 := oX.at 13 _ rfl
    have X14 := oX.at 14 _ rfl
    have Xl := oX.lt
    clear oX
    go_wp2_with (fail)
    go_at_call 12
    refine (CK.out _ HG4.out).mono ?_
    rintro e w5 ⟨rfl, hb⟩
    have HR5 := Lib.hid (HR3.out.later hb)
    have HX5 := Lib.hid (HX.out.later hb)
    have HB5 := Lib.hid (Below.go HB4.out hb)
    clear hb CK HG4 HR3 HX HB4 X0 X1 X2 X3 X4 X5 X6 X7 X8 X9 X10 X11 X12 X13 X14 Xl
    have oR := HR5.out
    have R0 := oR.at 0 _ rfl
    have Rf0 := oR.ok 0 (by simp)
    have R1 := oR.at 1 _ rfl
    have Rf1 := oR.ok 1 (by simp)
    have R2 := oR.at 2 _ rfl
    have Rf2 := oR.ok 2 (by simp)
    have R3 := oR.at 3 _ rfl
    have Rf3 := oR.ok 3 (by simp)
    have R4 := oR.at 4 _ rfl
    have Rf4 := oR.ok 4 (by simp)
    have R5 := oR.at 5 _ rfl
    have Rf5 := oR.ok 5 (by simp)
    have R6 := oR.at 6 _ rfl
    have Rf6 := oR.ok 6 (by simp)
    have R7 := oR.at 7 _ rfl
    have Rf7 := oR.ok 7 (by simp)
    have R8 := oR.at 8 _ rfl
    have Rf8 := oR.ok 8 (by simp)
    have R9 := oR.at 9 _ rfl
    have Rf9 := oR.ok 9 (by simp)
    have R10 := oR.at 10 _ rfl
    have Rf10 := oR.ok 10 (by simp)
    have R11 := oR.at 11 _ rfl
    have Rf11 := oR.ok 11 (by simp)
    have R12 := oR.at 12 _ rfl
    have Rf12 := oR.ok 12 (by simp)
    have R13 := oR.at 13 _ rfl
    have Rf13 := oR.ok 13 (by simp)
    have R14 := oR.at 14 _ rfl
    have Rf14 := oR.ok 14 (by simp)
    have Rl := oR.lt
    clear oR
    go_wp2_with (fail)
    change bodyPost _ _ _ _ _ (w5.setCells R 0 [.int .u64 0, .int .i64 0, .int .u32 0, .int .u8 0, .int .u8 0, .int .u8 0, .int .u8 0, .int .u8 0, .int .u8 0, .int .u8 0, .int .u8 0, .int .u32 0, .int .u32 0, .int .i64 0, .int .i64 0])
    have HR9 : Own R [.int .u64 0, .int .i64 0, .int .u32 0, .int .u8 0, .int .u8 0, .int .u8 0, .int .u8 0, .int .u8 0, .int .u8 0, .int .u8 0, .int .u8 0, .int .u32 0, .int .u32 0, .int .i64 0, .int .i64 0] (w5.setCells R 0 [.int .u64 0, .int .i64 0, .int .u32 0, .int .u8 0, .int .u8 0, .int .u8 0, .int .u8 0, .int .u8 0, .int .u8 0, .int .u8 0, .int .u8 0, .int .u32 0, .int .u32 0, .int .i64 0, .int .i64 0]) := Own.store HR5.out rfl
    have HB9 : Below w.heap.size w (w5.setCells R 0 [.int .u64 0, .int .i64 0, .int .u32 0, .int .u8 0, .int .u8 0, .int .u8 0, .int .u8 0, .int .u8 0, .int .u8 0, .int .u8 0, .int .u8 0, .int .u32 0, .int .u32 0, .int .i64 0, .int .i64 0]) := Below.setCells HB5.out Rw _ _
    have hL := run_loadVar_mid (P := Tryd.prog) _ R 0 26 [.int .u64 0, .int .i64 0, .int .u32 0, .int .u8 0, .int .u8 0, .int .u8 0, .int .u8 0, .int .u8 0, .int .u8 0, .int .u8 0, .int .u8 0, .int .u32 0, .int .u32 0, .int .i64 0, .int .i64 0] _ HR9.cell Tryd.underlying26 rfl (by kernel_rfl)
    exact bodyPost_ret (v := .tuple #[.agg ([.int .u64 0, .int .i64 0, .int .u32 0, .int .u8 0, .int .u8 0, .int .u8 0, .int .u8 0, .int .u8 0, .int .u8 0, .int .u8 0, .int .u8 0, .int .u32 0, .int .u32 0, .int .i64 0, .int .i64 0] : List Value).toArray, .int .i64 z]) (res_two Tryd.results18 rfl hL rfl) rfl ⟨rfl, HB9⟩
  · have eE : decE F N = if N < 35 then 4 else 5 := by
      unfold decE
      by_cases h : N < 35
      · rw [if_pos h, if_pos h]
      · rw [if_neg h, if_neg h, if_pos (by omega)]
    have EE : (if N < 35 then (4 : Int) else if 35 < N then 5 else 0) = if N < 35 then 4 else 5 := by
      by_cases h : N < 35
      · rw [if_pos h, if_pos h]
      · rw [if_neg h, if_neg h, if_pos (by omega)]
    rw [eE] at hE ⊢
    have HG := Lib.hid hg; have HQ := Lib.hid hq
    have NW := Lib.hid (fun w hq => New_any q N c F (by omega) w hq)
    have MN := Lib.hid (fun K D w h hd => Man_any K D N F hF w h hd)
    clear hF hq hg eE
    generalize valN F N 0 8 = x0 at *
    generalize valN F N 8 1 = x1 at *
    generalize valN F N 9 4 = x2 at *
    generalize valN F N 21 4 = x4 at *
    generalize valN F N 25 4 = x5 at *
    generalize valN F N 29 4 = x6 at *
    generalize valN F N 33 2 = x7 at *
    generalize mskN F N = G at *
    have hd : ((if N < 35 then (4 : Int) else 5) != 0) = true := by simpa using hE
    generalize (if N < 35 then (4 : Int) else 5) = z at *
    clear hE h35
    go_enter Tryd.func18, Tryd.ntmps18
    go_upto_region 1 with fail
    obtain ⟨W0, hW⟩ : ∃ W0, W0 = (w.alloc (.cells #[.int .u64 0, .int .i64 0, .int .u32 0, .int .u8 0, .int .u8 0, .int .u8 0, .int .u8 0, .int .u8 0, .int .u8 0, .int .u8 0, .int .u8 0, .int .u32 0, .int .u32 0, .int .i64 0, .int .i64 0] 26)) := ⟨_, rfl⟩
    have hB0 : Below w.heap.size w W0 := hW ▸ (Below.al (Below.refl _ _))
    have HR : Hid (Own w.heap.size ([.int .u64 0, .int .i64 0, .int .u32 0, .int .u8 0, .int .u8 0, .int .u8 0, .int .u8 0, .int .u8 0, .int .u8 0, .int .u8 0, .int .u8 0, .int .u32 0, .int .u32 0, .int .i64 0, .int .i64 0]) W0) := Lib.hid (hW ▸ (show Own w.heap.size ([.int .u64 0, .int .i64 0, .int .u32 0, .int .u8 0, .int .u8 0, .int .u8 0, .int .u8 0, .int .u8 0, .int .u8 0, .int .u8 0, .int .u8 0, .int .u32 0, .int .u32 0, .int .i64 0, .int .i64 0]) (w.alloc (.cells #[.int .u64 0, .int .i64 0, .int .u32 0, .int .u8 0, .int .u8 0, .int .u8 0, .int .u8 0, .int .u8 0, .int .u8 0, .int .u8 0, .int .u8 0, .int .u32 0, .int .u32 0, .int .i64 0, .int .i64 0] 26)) from Own.newAt (by simp)))
    rw [← hW]
    clear hW
    obtain ⟨R, eR⟩ : ∃ X, X = w.heap.size := ⟨_, rfl⟩
    rw [← eR] at HR ⊢
    have Rw : w.heap.size ≤ R := by omega
    clear eR
    have HG0 := Lib.hid (HG.out.later hB0)
    have HQ0 := Lib.hid (HQ.out.later hB0)
    have Rl := HR.out.lt
    clear HG HQ
    go_wp2_with (fail)
    go_at_call 25
    refine (NW.out _ HQ0.out).mono ?_
    rintro e w1 ⟨K, D, rfl, hKw, hDw, hDl, hrd, hb⟩
    have HG1 := Lib.hid (HG0.out.later hb)
    have HR1 := Lib.hid (HR.out.later hb)
    have hB1 := Below.go hB0 hb
    have nRK : R ≠ K := by omega
    have n0K : 0 ≠ K := by have := HG0.out.lt; omega
    have KW : w.heap.size ≤ K := by have := hB0.size; omega
    have Kl := hrd.lt
    have HRD := Lib.hid hrd
    clear hb hB0 HG0 HQ0 HR NW hrd hKw hDw Rl
    go_upto_region 2 with fail
    obtain ⟨w2, hW⟩ : ∃ w2, w2 = (w1.alloc (.cells #[.pointer (some ⟨K, 0, none⟩)] 56)) := ⟨_, rfl⟩
    have hBx : Below w1.heap.size w1 w2 := hW ▸ (Below.al (Below.refl _ _))
    have HP : Hid (Own w1.heap.size ([.pointer (some ⟨K, 0, none⟩)]) w2) := Lib.hid (hW ▸ (show Own w1.heap.size ([.pointer (some ⟨K, 0, none⟩)]) (w1.alloc (.cells #[.pointer (some ⟨K, 0, none⟩)] 56)) from Own.newAt (by simp)))
    rw [← hW]
    clear hW
    obtain ⟨P, eP⟩ : ∃ X, X = w1.heap.size := ⟨_, rfl⟩
    rw [← eP] at HP ⊢
    have Pw : w1.heap.size ≤ P := by omega
    clear eP
    have nPR : P ≠ R := by have := HR1.out.lt; omega
    have nRP : R ≠ P := Ne.symm nPR
    have nPK : P ≠ K := by omega
    have Pw2 : w.heap.size ≤ P := by have := hB1.size; omega
    clear Pw
    have Pw := Pw2
    clear Pw2
    have HR1k := Lib.hid (HR1.out.later hBx)
    clear HR1
    have HR1 := HR1k
    clear HR1k
    have HG2 := Lib.hid (HG1.out.later hBx)
    have HRD2 := Lib.hid (HRD.out.later hBx)
    have hDl2 := Nat.lt_of_lt_of_le hDl hBx.size
    have hB1n := Below.go hB1 hBx
    clear hB1 hBx
    have hB1 := hB1n
    clear hB1n
    clear HG1 HRD hDl Kl
    have oP := HP.out
    have P0 := oP.at 0 _ rfl
    have Pl := oP.lt
    clear oP
    go_wp2_with (fail)
    go_at_call 26
    refine (MN.out K D _ HRD2.out hDl2).mono ?_
    rintro e w3 ⟨rfl, h1, h2⟩
    have HRD3 := Lib.hid h1
    have HR3 := Lib.hid (HR1.out.but h2 nRK)
    have HP3 := Lib.hid (HP.out.but h2 nPK)
    have HG3 := Lib.hid (HG2.out.but h2 n0K)
    have hB3 := hB1.trans (h2.below.mono KW)
    clear h1 h2 HRD2 HR1 HP HG2 hB1 hDl2 P0 Pl MN
    go_upto_region 3 with fail
    obtain ⟨w4, hW⟩ : ∃ w4, w4 = (w3.alloc (.cells #[.int .u64 x0, .int .i64 x1, .int .u32 x2, .int .u8 (G 0), .int .u8 (G 1), .int .u8 (G 2), .int .u8 (G 3), .int .u8 (G 4), .int .u8 (G 5), .int .u8 (G 6), .int .u8 (G 7), .int .u32 x4, .int .u32 x5, .int .i64 x6, .int .i64 x7] 26)) := ⟨_, rfl⟩
    have hBx : Below w3.heap.size w3 w4 := hW ▸ (Below.al (Below.refl _ _))
    have HX : Hid (Own w3.heap.size ([.int .u64 x0, .int .i64 x1, .int .u32 x2, .int .u8 (G 0), .int .u8 (G 1), .int .u8 (G 2), .int .u8 (G 3), .int .u8 (G 4), .int .u8 (G 5), .int .u8 (G 6), .int .u8 (G 7), .int .u32 x4, .int .u32 x5, .int .i64 x6, .int .i64 x7]) w4) := Lib.hid (hW ▸ (show Own w3.heap.size ([.int .u64 x0, .int .i64 x1, .int .u32 x2, .int .u8 (G 0), .int .u8 (G 1), .int .u8 (G 2), .int .u8 (G 3), .int .u8 (G 4), .int .u8 (G 5), .int .u8 (G 6), .int .u8 (G 7), .int .u32 x4, .int .u32 x5, .int .i64 x6, .int .i64 x7]) (w3.alloc (.cells #[.int .u64 x0, .int .i64 x1, .int .u32 x2, .int .u8 (G 0), .int .u8 (G 1), .int .u8 (G 2), .int .u8 (G 3), .int .u8 (G 4), .int .u8 (G 5), .int .u8 (G 6), .int .u8 (G 7), .int .u32 x4, .int .u32 x5, .int .i64 x6, .int .i64 x7] 26)) from Own.newAt (by simp)))
    rw [← hW]
    clear hW
    obtain ⟨X, eX⟩ : ∃ X, X = w3.heap.size := ⟨_, rfl⟩
    rw [← eX] at HX ⊢
    have Xw : w3.heap.size ≤ X := by omega
    clear eX
    have nXR : X ≠ R := by have := HR3.out.lt; omega
    have nRX : R ≠ X := Ne.symm nXR
    have nXP : X ≠ P := by have := HP3.out.lt; omega
    have nPX : P ≠ X := Ne.symm nXP
    have Xw2 : w.heap.size ≤ X := by have := hB3.size; omega
    clear Xw
    have Xw := Xw2
    clear Xw2
    have HR3k := Lib.hid (HR3.out.later hBx)
    have HP3k := Lib.hid (HP3.out.later hBx)
    clear HR3 HP3
    have HR3 := HR3k
    clear HR3k
    have HP3 := HP3k
    clear HP3k
    have HG4 := Lib.hid (HG3.out.later hBx)
    have HRD4 := Lib.hid (HRD3.out.later hBx)
    have hB3n := Below.go hB3 hBx
    clear hB3 hBx
    have hB3 := hB3n
    clear hB3n
    have EN := Lib.hid (End_any HRD4.out)
    rw [dec_end, EE] at EN
    have HB4 := Lib.hid hB3
    clear HG3 HRD3 HRD4 hB3
    have oP := HP3.out
    have P0 := oP.at 0 _ rfl
    have Pl := oP.lt
    clear oP
    go_wp2_with (fail)
    go_at_call 27
    refine EN.out.mono ?_
    rintro e y5 ⟨rfl, hw⟩
    obtain rfl : w4 = y5 := hw.symm
    clear hw EN P0 Pl HP3
    have oR := HR3.out
    have R0 := oR.at 0 _ rfl
    have Rf0 := oR.ok 0 (by simp)
    have R1 := oR.at 1 _ rfl
    have Rf1 := oR.ok 1 (by simp)
    have R2 := oR.at 2 _ rfl
    have Rf2 := oR.ok 2 (by simp)
    have R3 := oR.at 3 _ rfl
    have Rf3 := oR.ok 3 (by simp)
    have R4 := oR.at 4 _ rfl
    have Rf4 := oR.ok 4 (by simp)
    have R5 := oR.at 5 _ rfl
    have Rf5 := oR.ok 5 (by simp)
    have R6 := oR.at 6 _ rfl
    have Rf6 := oR.ok 6 (by simp)
    have R7 := oR.at 7 _ rfl
    have Rf7 := oR.ok 7 (by simp)
    have R8 := oR.at 8 _ rfl
    have Rf8 := oR.ok 8 (by simp)
    have R9 := oR.at 9 _ rfl
    have Rf9 := oR.ok 9 (by simp)
    have R10 := oR.at 10 _ rfl
    have Rf10 := oR.ok 10 (by simp)
    have R11 := oR.at 11 _ rfl
    have Rf11 := oR.ok 11 (by simp)
    have R12 := oR.at 12 _ rfl
    have Rf12 := oR.ok 12 (by simp)
    have R13 := oR.at 13 _ rfl
    have Rf13 := oR.ok 13 (by simp)
    have R14 := oR.at 14 _ rfl
    have Rf14 := oR.ok 14 (by simp)
    have Rl := oR.lt
    clear oR
    go_wp2_with (fail)
    change bodyPost _ _ _ _ _ (w4.setCells R 0 [.int .u64 0, .int .i64 0, .int .u32 0, .int .u8 0, .int .u8 0, .int .u8 0, .int .u8 0, .int .u8 0, .int .u8 0, .int .u8 0, .int .u8 0, .int .u32 0, .int .u32 0, .int .i64 0, .int .i64 0])
    have HR9 : Own R [.int .u64 0, .int .i64 0, .int .u32 0, .int .u8 0, .int .u8 0, .int .u8 0, .int .u8 0, .int .u8 0, .int .u8 0, .int .u8 0, .int .u8 0, .int .u32 0, .int .u32 0, .int .i64 0, .int .i64 0] (w4.setCells R 0 [.int .u64 0, .int .i64 0, .int .u32 0, .int .u8 0, .int .u8 0, .int .u8 0, .int .u8 0, .int .u8 0, .int .u8 0, .int .u8 0, .int .u8 0, .int .u32 0, .int .u32 0, .int .i64 0, .int .i64 0]) := Own.store HR3.out rfl
    have HB9 : Below w.heap.size w (w4.setCells R 0 [.int .u64 0, .int .i64 0, .int .u32 0, .int .u8 0, .int .u8 0, .int .u8 0, .int .u8 0, .int .u8 0, .int .u8 0, .int .u8 0, .int .u8 0, .int .u32 0, .int .u32 0, .int .i64 0, .int .i64 0]) := Below.setCells HB4.out Rw _ _
    have hL := run_loadVar_mid (P := Tryd.prog) _ R 0 26 [.int .u64 0, .int .i64 0, .int .u32 0, .int .u8 0, .int .u8 0, .int .u8 0, .int .u8 0, .int .u8 0, .int .u8 0, .int .u8 0, .int .u8 0, .int .u32 0, .int .u32 0, .int .i64 0, .int .i64 0] _ HR9.cell Tryd.underlying26 rfl (by kernel_rfl)
    exact bodyPost_ret (v := .tuple #[.agg ([.int .u64 0, .int .i64 0, .int .u32 0, .int .u8 0, .int .u8 0, .int .u8 0, .int .u8 0, .int .u8 0, .int .u8 0, .int .u8 0, .int .u8 0, .int .u32 0, .int .u32 0, .int .i64 0, .int .i64 0] : List Value).toArray, .int .i64 z]) (res_two Tryd.results18 rfl hL rfl) rfl ⟨rfl, HB9⟩
set_option maxHeartbeats 8000000 in
theorem Decode_yes (F : Nat → Int) (q : Option Addr) (N c : Nat) (hN : N = 35) (hF : ∀ j, j < N → inB (F j)) (w : World) (hg : Has 0 0 CapL w) (hq : Byt w q N F) (hE : decE F N = 0) :
    Calls Tryd.prog 18 #[.slice q N c] w fun e w' => e = .returned (.tuple #[(.agg #[.int .u64 (valN F N 0 8), .int .i64 (valN F N 8 1), .int .u32 (valN F N 9 4), .int .u8 (mskN F N 0), .int .u8 (mskN F N 1), .int .u8 (mskN F N 2), .int .u8 (mskN F N 3), .int .u8 (mskN F N 4), .int .u8 (mskN F N 5), .int .u8 (mskN F N 6), .int .u8 (mskN F N 7), .int .u32 (valN F N 21 4), .int .u32 (valN F N 25 4), .int .i64 (valN F N 29 4), .int .i64 (valN F N 33 2)]), .int .i64 0]) ∧ Below w.heap.size w w' := by
  subst hN
  have eE : decE F 35 = checkF (valN F 35 8 1) (mskN F 35) (valN F 35 21 4) (valN F 35 25 4) (valN F 35 29 4) (valN F 35 33 2) := rfl
  have EE : (if 35 < 35 then (4 : Int) else if 35 < 35 then 5 else 0) = 0 := rfl
  rw [eE] at hE
  have p4 := pw_vals.2.2.2.1
  have b6 := in_valN hF 29 4
  rw [p4] at b6
  have HG := Lib.hid hg; have HQ := Lib.hid hq
  have NW := Lib.hid (fun w hq => New_any q 35 c F (by omega) w hq)
  have MN := Lib.hid (fun K D w h hd => Man_any K D 35 F hF w h hd)
  clear hF hq hg eE
  generalize valN F 35 0 8 = x0 at *
  generalize valN F 35 8 1 = x1 at *
  generalize valN F 35 9 4 = x2 at *
  generalize valN F 35 21 4 = x4 at *
  generalize valN F 35 25 4 = x5 at *
  generalize valN F 35 29 4 = x6 at *
  generalize valN F 35 33 2 = x7 at *
  generalize mskN F 35 = G at *
  have CK := Lib.hid (Check_any x0 x1 x2 G x4 x5 x6 x7 (by omega))
  rw [hE] at CK
  clear b6 p4 hE
  go_enter Tryd.func18, Tryd.ntmps18
  go_upto_region 1 with fail
  obtain ⟨W0, hW⟩ : ∃ W0, W0 = (w.alloc (.cells #[.int .u64 0, .int .i64 0, .int .u32 0, .int .u8 0, .int .u8 0, .int .u8 0, .int .u8 0, .int .u8 0, .int .u8 0, .int .u8 0, .int .u8 0, .int .u32 0, .int .u32 0, .int .i64 0, .int .i64 0] 26)) := ⟨_, rfl⟩
  have hB0 : Below w.heap.size w W0 := hW ▸ (Below.al (Below.refl _ _))
  have HR : Hid (Own w.heap.size ([.int .u64 0, .int .i64 0, .int .u32 0, .int .u8 0, .int .u8 0, .int .u8 0, .int .u8 0, .int .u8 0, .int .u8 0, .int .u8 0, .int .u8 0, .int .u32 0, .int .u32 0, .int .i64 0, .int .i64 0]) W0) := Lib.hid (hW ▸ (show Own w.heap.size ([.int .u64 0, .int .i64 0, .int .u32 0, .int .u8 0, .int .u8 0, .int .u8 0, .int .u8 0, .int .u8 0, .int .u8 0, .int .u8 0, .int .u8 0, .int .u32 0, .int .u32 0, .int .i64 0, .int .i64 0]) (w.alloc (.cells #[.int .u64 0, .int .i64 0, .int .u32 0, .int .u8 0, .int .u8 0, .int .u8 0, .int .u8 0, .int .u8 0, .int .u8 0, .int .u8 0, .int .u8 0, .int .u32 0, .int .u32 0, .int .i64 0, .int .i64 0] 26)) from Own.newAt (by simp)))
  rw [← hW]
  clear hW
  obtain ⟨R, eR⟩ : ∃ X, X = w.heap.size := ⟨_, rfl⟩
  rw [← eR] at HR ⊢
  have Rw : w.heap.size ≤ R := by omega
  clear eR
  have HG0 := Lib.hid (HG.out.later hB0)
  have HQ0 := Lib.hid (HQ.out.later hB0)
  have Rl := HR.out.lt
  clear HG HQ
  go_wp2_with (fail)
  go_at_call 25
  refine (NW.out _ HQ0.out).mono ?_
  rintro e w1 ⟨K, D, rfl, hKw, hDw, hDl, hrd, hb⟩
  have HG1 := Lib.hid (HG0.out.later hb)
  have HR1 := Lib.hid (HR.out.later hb)
  have hB1 := Below.go hB0 hb
  have nRK : R ≠ K := by omega
  have n0K : 0 ≠ K := by have := HG0.out.lt; omega
  have KW : w.heap.size ≤ K := by have := hB0.size; omega
  have Kl := hrd.lt
  have HRD := Lib.hid hrd
  clear hb hB0 HG0 HQ0 HR NW hrd hKw hDw Rl
  go_upto_region 2 with fail
  obtain ⟨w2, hW⟩ : ∃ w2, w2 = (w1.alloc (.cells #[.pointer (some ⟨K, 0, none⟩)] 56)) := ⟨_, rfl⟩
  have hBx : Below w1.heap.size w1 w2 := hW ▸ (Below.al (Below.refl _ _))
  have HP : Hid (Own w1.heap.size ([.pointer (some ⟨K, 0, none⟩)]) w2) := Lib.hid (hW ▸ (show Own w1.heap.size ([.pointer (some ⟨K, 0, none⟩)]) (w1.alloc (.cells #[.pointer (some ⟨K, 0, none⟩)] 56)) from Own.newAt (by simp)))
  rw [← hW]
  clear hW
  obtain ⟨P, eP⟩ : ∃ X, X = w1.heap.size := ⟨_, rfl⟩
  rw [← eP] at HP ⊢
  have Pw : w1.heap.size ≤ P := by omega
  clear eP
  have nPR : P ≠ R := by have := HR1.out.lt; omega
  have nRP : R ≠ P := Ne.symm nPR
  have nPK : P ≠ K := by omega
  have Pw2 : w.heap.size ≤ P := by have := hB1.size; omega
  clear Pw
  have Pw := Pw2
  clear Pw2
  have HR1k := Lib.hid (HR1.out.later hBx)
  clear HR1
  have HR1 := HR1k
  clear HR1k
  have HG2 := Lib.hid (HG1.out.later hBx)
  have HRD2 := Lib.hid (HRD.out.later hBx)
  have hDl2 := Nat.lt_of_lt_of_le hDl hBx.size
  have hB1n := Below.go hB1 hBx
  clear hB1 hBx
  have hB1 := hB1n
  clear hB1n
  clear HG1 HRD hDl Kl
  have oP := HP.out
  have P0 := oP.at 0 _ rfl
  have Pl := oP.lt
  clear oP
  go_wp2_with (fail)
  go_at_call 26
  refine (MN.out K D _ HRD2.out hDl2).mono ?_
  rintro e w3 ⟨rfl, h1, h2⟩
  have HRD3 := Lib.hid h1
  have HR3 := Lib.hid (HR1.out.but h2 nRK)
  have HP3 := Lib.hid (HP.out.but h2 nPK)
  have HG3 := Lib.hid (HG2.out.but h2 n0K)
  have hB3 := hB1.trans (h2.below.mono KW)
  clear h1 h2 HRD2 HR1 HP HG2 hB1 hDl2 P0 Pl MN
  go_upto_region 3 with fail
  obtain ⟨w4, hW⟩ : ∃ w4, w4 = (w3.alloc (.cells #[.int .u64 x0, .int .i64 x1, .int .u32 x2, .int .u8 (G 0), .int .u8 (G 1), .int .u8 (G 2), .int .u8 (G 3), .int .u8 (G 4), .int .u8 (G 5), .int .u8 (G 6), .int .u8 (G 7), .int .u32 x4, .int .u32 x5, .int .i64 x6, .int .i64 x7] 26)) := ⟨_, rfl⟩
  have hBx : Below w3.heap.size w3 w4 := hW ▸ (Below.al (Below.refl _ _))
  have HX : Hid (Own w3.heap.size ([.int .u64 x0, .int .i64 x1, .int .u32 x2, .int .u8 (G 0), .int .u8 (G 1), .int .u8 (G 2), .int .u8 (G 3), .int .u8 (G 4), .int .u8 (G 5), .int .u8 (G 6), .int .u8 (G 7), .int .u32 x4, .int .u32 x5, .int .i64 x6, .int .i64 x7]) w4) := Lib.hid (hW ▸ (show Own w3.heap.size ([.int .u64 x0, .int .i64 x1, .int .u32 x2, .int .u8 (G 0), .int .u8 (G 1), .int .u8 (G 2), .int .u8 (G 3), .int .u8 (G 4), .int .u8 (G 5), .int .u8 (G 6), .int .u8 (G 7), .int .u32 x4, .int .u32 x5, .int .i64 x6, .int .i64 x7]) (w3.alloc (.cells #[.int .u64 x0, .int .i64 x1, .int .u32 x2, .int .u8 (G 0), .int .u8 (G 1), .int .u8 (G 2), .int .u8 (G 3), .int .u8 (G 4), .int .u8 (G 5), .int .u8 (G 6), .int .u8 (G 7), .int .u32 x4, .int .u32 x5, .int .i64 x6, .int .i64 x7] 26)) from Own.newAt (by simp)))
  rw [← hW]
  clear hW
  obtain ⟨X, eX⟩ : ∃ X, X = w3.heap.size := ⟨_, rfl⟩
  rw [← eX] at HX ⊢
  have Xw : w3.heap.size ≤ X := by omega
  clear eX
  have nXR : X ≠ R := by have := HR3.out.lt; omega
  have nRX : R ≠ X := Ne.symm nXR
  have nXP : X ≠ P := by have := HP3.out.lt; omega
  have nPX : P ≠ X := Ne.symm nXP
  have Xw2 : w.heap.size ≤ X := by have := hB3.size; omega
  clear Xw
  have Xw := Xw2
  clear Xw2
  have HR3k := Lib.hid (HR3.out.later hBx)
  have HP3k := Lib.hid (HP3.out.later hBx)
  clear HR3 HP3
  have HR3 := HR3k
  clear HR3k
  have HP3 := HP3k
  clear HP3k
  have HG4 := Lib.hid (HG3.out.later hBx)
  have HRD4 := Lib.hid (HRD3.out.later hBx)
  have hB3n := Below.go hB3 hBx
  clear hB3 hBx
  have hB3 := hB3n
  clear hB3n
  have EN := Lib.hid (End_any HRD4.out)
  rw [dec_end, EE] at EN
  have HB4 := Lib.hid hB3
  clear HG3 HRD3 HRD4 hB3
  have oP := HP3.out
  have P0 := oP.at 0 _ rfl
  have Pl := oP.lt
  clear oP
  go_wp2_with (fail)
  go_at_call 27
  refine EN.out.mono ?_
  rintro e y5 ⟨rfl, hw⟩
  obtain rfl : w4 = y5 := hw.symm
  clear hw EN P0 Pl HP3
  have oX := HX.out
  have X0 := oX.at 0 _ rfl
  have X1 := oX.at 1 _ rfl
  have X2 := oX.at 2 _ rfl
  have X3 := oX.at 3 _ rfl
  have X4 := oX.at 4 _ rfl
  have X5 := oX.at 5 _ rfl
  have X6 := oX.at 6 _ rfl
  have X7 := oX.at 7 _ rfl
  have X8 := oX.at 8 _ rfl
  have X9 := oX.at 9 _ rfl
  have X10 := oX.at 10 _ rfl
  have X11 := oX.at 11 _ rfl
  have X12 := oX.at 12 _ rfl
  have X13 := oX.at 13 _ rfl
  have X14 := oX.at 14 _ rfl
  have Xl := oX.lt
  clear oX
  go_wp2_with (fail)
  go_at_call 12
  refine (CK.out _ HG4.out).mono ?_
  rintro e w5 ⟨rfl, hb⟩
  have HR5 := Lib.hid (HR3.out.later hb)
  have HX5 := Lib.hid (HX.out.later hb)
  have HB5 := Lib.hid (Below.go HB4.out hb)
  clear hb CK HG4 HR3 HX HB4 X0 X1 X2 X3 X4 X5 X6 X7 X8 X9 X10 X11 X12 X13 X14 Xl
  have oX := HX5.out
  have X0 := oX.at 0 _ rfl
  have X1 := oX.at 1 _ rfl
  have X2 := oX.at 2 _ rfl
  have X3 := oX.at 3 _ rfl
  have X4 := oX.at 4 _ rfl
  have X5 := oX.at 5 _ rfl
  have X6 := oX.at 6 _ rfl
  have X7 := oX.at 7 _ rfl
  have X8 := oX.at 8 _ rfl
  have X9 := oX.at 9 _ rfl
  have X10 := oX.at 10 _ rfl
  have X11 := oX.at 11 _ rfl
  have X12 := oX.at 12 _ rfl
  have X13 := oX.at 13 _ rfl
  have X14 := oX.at 14 _ rfl
  have Xl := oX.lt
  clear oX
  have oR := HR5.out
  have R0 := oR.at 0 _ rfl
  have Rf0 := oR.ok 0 (by simp)
  have R1 := oR.at 1 _ rfl
  have Rf1 := oR.ok 1 (by simp)
  have R2 := oR.at 2 _ rfl
  have Rf2 := oR.ok 2 (by simp)
  have R3 := oR.at 3 _ rfl
  have Rf3 := oR.ok 3 (by simp)
  have R4 := oR.at 4 _ rfl
  have Rf4 := oR.ok 4 (by simp)
  have R5 := oR.at 5 _ rfl
  have Rf5 := oR.ok 5 (by simp)
  have R6 := oR.at 6 _ rfl
  have Rf6 := oR.ok 6 (by simp)
  have R7 := oR.at 7 _ rfl
  have Rf7 := oR.ok 7 (by simp)
  have R8 := oR.at 8 _ rfl
  have Rf8 := oR.ok 8 (by simp)
  have R9 := oR.at 9 _ rfl
  have Rf9 := oR.ok 9 (by simp)
  have R10 := oR.at 10 _ rfl
  have Rf10 := oR.ok 10 (by simp)
  have R11 := oR.at 11 _ rfl
  have Rf11 := oR.ok 11 (by simp)
  have R12 := oR.at 12 _ rfl
  have Rf12 := oR.ok 12 (by simp)
  have R13 := oR.at 13 _ rfl
  have Rf13 := oR.ok 13 (by simp)
  have R14 := oR.at 14 _ rfl
  have Rf14 := oR.ok 14 (by simp)
  have Rl := oR.lt
  clear oR
  go_wp2_with (fail)
  change bodyPost _ _ _ _ _ (w5.setCells R 0 [.int .u64 x0, .int .i64 x1, .int .u32 x2, .int .u8 (G 0), .int .u8 (G 1), .int .u8 (G 2), .int .u8 (G 3), .int .u8 (G 4), .int .u8 (G 5), .int .u8 (G 6), .int .u8 (G 7), .int .u32 x4, .int .u32 x5, .int .i64 x6, .int .i64 x7])
  have HR9 : Own R [.int .u64 x0, .int .i64 x1, .int .u32 x2, .int .u8 (G 0), .int .u8 (G 1), .int .u8 (G 2), .int .u8 (G 3), .int .u8 (G 4), .int .u8 (G 5), .int .u8 (G 6), .int .u8 (G 7), .int .u32 x4, .int .u32 x5, .int .i64 x6, .int .i64 x7] (w5.setCells R 0 [.int .u64 x0, .int .i64 x1, .int .u32 x2, .int .u8 (G 0), .int .u8 (G 1), .int .u8 (G 2), .int .u8 (G 3), .int .u8 (G 4), .int .u8 (G 5), .int .u8 (G 6), .int .u8 (G 7), .int .u32 x4, .int .u32 x5, .int .i64 x6, .int .i64 x7]) := Own.store HR5.out rfl
  have HB9 : Below w.heap.size w (w5.setCells R 0 [.int .u64 x0, .int .i64 x1, .int .u32 x2, .int .u8 (G 0), .int .u8 (G 1), .int .u8 (G 2), .int .u8 (G 3), .int .u8 (G 4), .int .u8 (G 5), .int .u8 (G 6), .int .u8 (G 7), .int .u32 x4, .int .u32 x5, .int .i64 x6, .int .i64 x7]) := Below.setCells HB5.out Rw _ _
  have hL := run_loadVar_mid (P := Tryd.prog) _ R 0 26 [.int .u64 x0, .int .i64 x1, .int .u32 x2, .int .u8 (G 0), .int .u8 (G 1), .int .u8 (G 2), .int .u8 (G 3), .int .u8 (G 4), .int .u8 (G 5), .int .u8 (G 6), .int .u8 (G 7), .int .u32 x4, .int .u32 x5, .int .i64 x6, .int .i64 x7] _ HR9.cell Tryd.underlying26 rfl (by kernel_rfl)
  exact bodyPost_ret (v := .tuple #[.agg ([.int .u64 x0, .int .i64 x1, .int .u32 x2, .int .u8 (G 0), .int .u8 (G 1), .int .u8 (G 2), .int .u8 (G 3), .int .u8 (G 4), .int .u8 (G 5), .int .u8 (G 6), .int .u8 (G 7), .int .u32 x4, .int .u32 x5, .int .i64 x6, .int .i64 x7] : List Value).toArray, .int .i64 0]) (res_two Tryd.results18 rfl hL rfl) rfl ⟨rfl, HB9⟩
end Go.Proofs.YtapkhecebglnlaaDoor
