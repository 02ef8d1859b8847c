/- ManifestStrict: the walk. -/
import Derived.Test.YtapkhecebglnlaaDoorGO
import Derived.Test.YtapkhecebglnlaaDoorGG
import Derived.Test.YtapkhecebglnlaaDoorGE
import Derived.Test.YtapkhecebglnlaaDoorGP
import Derived.Test.YtapkhecebglnlaaDoorCW
import Derived.Test.YtapkhecebglnlaaDoorPF
import Derived.Lib.Hide
import Derived.LoopN
import Derived.LoopTactic
import Derived.Deep.Onto
import Derived.Deep.RegionHeld3
import Derived.Deep.QuietTactic
import Derived.BigQuiet
namespace Go.Proofs.YtapkhecebglnlaaDoor
set_option linter.unusedVariables false
set_option maxRecDepth 2000
set_option linter.unusedSimpArgs false
open Go.RowKit
attribute [local go_sem ↓ high] sliced_head eqM0
set_option maxHeartbeats 16000000 in
theorem Strict_law (F : Nat → Int) (q : Option Addr) (n c N : Nat) (e1 : min (n : Int) 60 = (N : Int)) (hF : ∀ j, j < N → inB (F j)) (hnc : n ≤ c) (hcx : c ≤ 9223372036854775807) (w : World) (hg : Has 0 0 CapL w) (hq : Byt w q N F) :
    Calls Tryd.prog 7 #[.slice q n c] w fun e w' => e = .returned (.bool true) ∧ Below w.heap.size w w' := by
  have m0 : (0 : Int) ≤ (N : Int) := by omega
  have mi : (N : Int) ≤ (c : Int) := by omega
  have HG := Lib.hid hg; have HQ := Lib.hid hq
  by_cases hE : decE F N = 0
  · have h35 : N = 35 := by
      unfold decE at hE
      split at hE
      · omega
      · split at hE <;> omega
    subst h35
    have FA := Lib.hid (fun w hg hq => Decode_yes F q 35 c rfl hF w hg hq hE)
    have IM := in_vals F hF
    have FE := Lib.hid (Encode_any (valN F 35 0 8) (valN F 35 8 1) (valN F 35 9 4) (mskN F 35) (valN F 35 21 4) (valN F 35 25 4) (valN F 35 29 4) (valN F 35 33 2) IM.hi IM.hl IM.hg IM.hf IM.ht IM.hs)
    rw [show checkF (valN F 35 8 1) (mskN F 35) (valN F 35 21 4) (valN F 35 25 4) (valN F 35 29 4) (valN F 35 33 2) = 0 from hE, show encL 0 = 35 from rfl] at FE
    have EO := Lib.hid (enc_of F hF)
    have NC := Lib.hid (show 35 ≤ c by omega); have CX := Lib.hid hcx
    generalize encF (valN F 35 0 8) (valN F 35 8 1) (valN F 35 9 4) (mskN F 35) (valN F 35 21 4) (valN F 35 25 4) (valN F 35 29 4) (valN F 35 33 2) = E at *
    clear hF hE hnc hcx hg hq IM
    generalize valN F 35 0 8 = x0 at *
    generalize valN F 35 8 1 = x1 at *
    generalize valN F 35 9 4 = x2 at *
    generalize valN F 35 21 4 = x4 at *
    generalize valN F 35 25 4 = x5 at *
    generalize valN F 35 29 4 = x6 at *
    generalize valN F 35 33 2 = x7 at *
    generalize mskN F 35 = G at *
    go_enter Tryd.func7, Tryd.ntmps7
    go_wp2_with (fail)
    go_at_call 18
    refine (FA.out _ HG.out HQ.out).mono ?_
    rintro e w1 ⟨rfl, hb⟩
    have HG1 := Lib.hid (HG.out.later hb)
    have HQ1 := Lib.hid (HQ.out.later hb)
    have hB1 := hb
    clear hb FA HG HQ
    go_upto_region 3 with fail
    obtain ⟨w2, hW⟩ : ∃ w2, w2 = (w1.alloc (.cells #[.int .u64 x0, .int .i64 x1, .int .u32 x2, .int .u8 (G 0), .int .u8 (G 1), .int .u8 (G 2), .int .u8 (G 3), .int .u8 (G 4), .int .u8 (G 5), .int .u8 (G 6), .int .u8 (G 7), .int .u32 x4, .int .u32 x5, .int .i64 x6, .int .i64 x7] 26)) := ⟨_, rfl⟩
    have hBx : Below w1.heap.size w1 w2 := hW ▸ (Below.al (Below.refl _ _))
    have HX : Hid (Own w1.heap.size ([.int .u64 x0, .int .i64 x1, .int .u32 x2, .int .u8 (G 0), .int .u8 (G 1), .int .u8 (G 2), .int .u8 (G 3), .int .u8 (G 4), .int .u8 (G 5), .int .u8 (G 6), .int .u8 (G 7), .int .u32 x4, .int .u32 x5, .int .i64 x6, .int .i64 x7]) w2) := Lib.hid (hW ▸ (show Own w1.heap.size ([.int .u64 x0, .int .i64 x1, .int .u32 x2, .int .u8 (G 0), .int .u8 (G 1), .int .u8 (G 2), .int .u8 (G 3), .int .u8 (G 4), .int .u8 (G 5), .int .u8 (G 6), .int .u8 (G 7), .int .u32 x4, .int .u32 x5, .int .i64 x6, .int .i64 x7]) (w1.alloc (.cells #[.int .u64 x0, .int .i64 x1, .int .u32 x2, .int .u8 (G 0), .int .u8 (G 1), .int .u8 (G 2), .int .u8 (G 3), .int .u8 (G 4), .int .u8 (G 5), .int .u8 (G 6), .int .u8 (G 7), .int .u32 x4, .int .u32 x5, .int .i64 x6, .int .i64 x7] 26)) from Own.newAt (by simp)))
    rw [← hW]
    clear hW
    obtain ⟨X, eX⟩ : ∃ X, X = w1.heap.size := ⟨_, rfl⟩
    rw [← eX] at HX ⊢
    have Xw : w1.heap.size ≤ X := by omega
    clear eX
    have HG2 := Lib.hid (HG1.out.later hBx)
    have HQ2 := Lib.hid (HQ1.out.later hBx)
    have HB2 := Lib.hid (Below.go hB1 hBx)
    clear HG1 HQ1 hB1 hBx
    have oX := HX.out
    have X0 := oX.at 0 _ rfl
    have X1 := oX.at 1 _ rfl
    have X2 := oX.at 2 _ rfl
    have X3 := oX.at 3 _ rfl
    have X4 := oX.at 4 _ rfl
    have X5 := oX.at 5 _ rfl
    have X6 := oX.at 6 _ rfl
    have X7 := oX.at 7 _ rfl
    have X8 := oX.at 8 _ rfl
    have X9 := oX.at 9 _ rfl
    have X10 := oX.at 10 _ rfl
    have X11 := oX.at 11 _ rfl
    have X12 := oX.at 12 _ rfl
    have X13 := oX.at 13 _ rfl
    have X14 := oX.at 14 _ rfl
    have Xl := oX.lt
    clear oX
    go_wp2_with (fail)
    go_at_call 15
    refine (FE.out _ HG2.out).mono ?_
    rintro e w3 ⟨v, rfl, hr, hb⟩
    obtain ⟨q2, c2, rfl, hn2, hc2, hby⟩ := hr
    have BY := Lib.hid (byt_congr hby EO.out)
    have HG3 := Lib.hid (HG2.out.later hb)
    have HQ3 := Lib.hid (HQ2.out.later hb)
    have HB3 := Lib.hid (Below.go HB2.out hb)
    clear hn2 hc2 hby hb HG2 HQ2 HB2 FE EO HX X0 X1 X2 X3 X4 X5 X6 X7 X8 X9 X10 X11 X12 X13 X14 Xl
    go_wp2_with (fail)
    go_at_call 17
    refine (Equal_any q q2 35 c c2 F _ HQ3.out BY.out).mono ?_
    rintro e w4 ⟨rfl, hb⟩
    have HG4 := Lib.hid (HG3.out.later hb)
    have HB4 := Lib.hid (Below.go HB3.out hb)
    clear hb HG3 HB3 HQ3 BY
    go_wp2_with (fail)
    go_at_call 14
    refine (works12_any _ HG4.out).mono ?_
    rintro e w5 ⟨rfl, hb⟩
    have HB5 := Below.go HB4.out hb
    clear hb HB4 HG4
    go_wp2_with (fail)
    go_ret
    exact ⟨rfl, HB5⟩
  · have FA := Lib.hid (fun w hg hq => Decode_no F q N c hF (by omega) w hg hq hE)
    have hd : (decE F N != 0) = true := by simpa using hE
    clear hF hE hnc hcx hg hq
    generalize decE F N = z at *
    go_enter Tryd.func7, Tryd.ntmps7
    go_wp2_with (fail)
    go_at_call 18
    refine (FA.out _ HG.out HQ.out).mono ?_
    rintro e w1 ⟨rfl, hb⟩
    have HG1 := Lib.hid (HG.out.later hb)
    have HQ1 := Lib.hid (HQ.out.later hb)
    have hB1 := hb
    clear hb FA HG HQ
    go_upto_region 3 with fail
    obtain ⟨w2, hW⟩ : ∃ w2, w2 = (w1.alloc (.cells #[.int .u64 0, .int .i64 0, .int .u32 0, .int .u8 0, .int .u8 0, .int .u8 0, .int .u8 0, .int .u8 0, .int .u8 0, .int .u8 0, .int .u8 0, .int .u32 0, .int .u32 0, .int .i64 0, .int .i64 0] 26)) := ⟨_, rfl⟩
    have hBx : Below w1.heap.size w1 w2 := hW ▸ (Below.al (Below.refl _ _))
    have HX : Hid (Own w1.heap.size ([.int .u64 0, .int .i64 0, .int .u32 0, .int .u8 0, .int .u8 0, .int .u8 0, .int .u8 0, .int .u8 0, .int .u8 0, .int .u8 0, .int .u8 0, .int .u32 0, .int .u32 0, .int .i64 0, .int .i64 0]) w2) := Lib.hid (hW ▸ (show Own w1.heap.size ([.int .u64 0, .int .i64 0, .int .u32 0, .int .u8 0, .int .u8 0, .int .u8 0, .int .u8 0, .int .u8 0, .int .u8 0, .int .u8 0, .int .u8 0, .int .u32 0, .int .u32 0, .int .i64 0, .int .i64 0]) (w1.alloc (.cells #[.int .u64 0, .int .i64 0, .int .u32 0, .int .u8 0, .int .u8 0, .int .u8 0, .int .u8 0, .int .u8 0, .int .u8 0, .int .u8 0, .int .u8 0, .int .u32 0, .int .u32 0, .int .i64 0, .int .i64 0] 26)) from Own.newAt (by simp)))
    rw [← hW]
    clear hW
    obtain ⟨X, eX⟩ : ∃ X, X = w1.heap.size := ⟨_, rfl⟩
    rw [← eX] at HX ⊢
    have Xw : w1.heap.size ≤ X := by omega
    clear eX
    have HG2 := Lib.hid (HG1.out.later hBx)
    have HQ2 := Lib.hid (HQ1.out.later hBx)
    have HB2 := Lib.hid (Below.go hB1 hBx)
    clear HG1 HQ1 hB1 hBx
    have oX := HX.out
    have X0 := oX.at 0 _ rfl
    have X1 := oX.at 1 _ rfl
    have X2 := oX.at 2 _ rfl
    have X3 := oX.at 3 _ rfl
    have X4 := oX.at 4 _ rfl
    have X5 := oX.at 5 _ rfl
    have X6 := oX.at 6 _ rfl
    have X7 := oX.at 7 _ rfl
    have X8 := oX.at 8 _ rfl
    have X9 := oX.at 9 _ rfl
    have X10 := oX.at 10 _ rfl
    have X11 := oX.at 11 _ rfl
    have X12 := oX.at 12 _ rfl
    have X13 := oX.at 13 _ rfl
    have X14 := oX.at 14 _ rfl
    have Xl := oX.lt
    clear oX
    have HG4 := HG2
    have HB4 := HB2
    clear HG2 HB2
    go_wp2_with (fail)
    go_at_call 14
    refine (works12_any _ HG4.out).mono ?_
    rintro e w5 ⟨rfl, hb⟩
    have HB5 := Below.go HB4.out hb
    clear hb HB4 HG4
    go_wp2_with (fail)
    go_ret
    exact ⟨rfl, HB5⟩
/-- of any bytes -/
theorem Strict_core (F : Nat → Int) (q : Option Addr) (n c : Nat) (hF : ∀ j, j < n → inB (F j)) (hnc : n ≤ c) (hcx : c ≤ 9223372036854775807) (w : World) (hg : Has 0 0 CapL w) (hq : Byt w q n F) :
    Calls Tryd.prog 7 #[.slice q n c] w fun e w' => e = .returned (.bool true) ∧ Below w.heap.size w w' :=
  Strict_law F q n c (min n 60) (by omega) (fun j hj => hF j (by omega)) hnc hcx w hg (byt_take hq (by omega))
end Go.Proofs.YtapkhecebglnlaaDoor
