/- ManifestDecodes: the walk. -/
import Derived.Test.YtapkhecebglnlaaDoorGM
import Derived.Test.YtapkhecebglnlaaDoorGE
import Derived.Test.YtapkhecebglnlaaDoorGP
import Derived.Test.YtapkhecebglnlaaDoorPF
import Derived.Lib.Hide
import Derived.LoopN
import Derived.LoopTactic
import Derived.Deep.Onto
import Derived.Deep.RegionHeld3
import Derived.Deep.QuietTactic
import Derived.BigQuiet
namespace Go.Proofs.YtapkhecebglnlaaDoor
set_option linter.unusedVariables false
set_option maxRecDepth 2000
set_option linter.unusedSimpArgs false
open Go.RowKit
theorem manB_self (mi mk ml : Int) (mg : Nat → Int) (mf mt ms mc : Int) : manB mi mk ml mg mf mt ms mc mi mk ml mg mf mt ms mc = true := (manB_iff _ _ _ _ _ _ _ _ _ _ _ _ _ _ _ _).2 ⟨rfl, rfl, rfl, fun _ _ => rfl, rfl, rfl, rfl, rfl⟩
theorem eqMs (mi mk ml : Int) (mg : Nat → Int) (mf mt ms mc : Int) (w : World) : (binOp .eql 26 (.agg #[.int .u64 mi, .int .i64 mk, .int .u32 ml, .int .u8 (mg 0), .int .u8 (mg 1), .int .u8 (mg 2), .int .u8 (mg 3), .int .u8 (mg 4), .int .u8 (mg 5), .int .u8 (mg 6), .int .u8 (mg 7), .int .u32 mf, .int .u32 mt, .int .i64 ms, .int .i64 mc]) (.agg #[.int .u64 mi, .int .i64 mk, .int .u32 ml, .int .u8 (mg 0), .int .u8 (mg 1), .int .u8 (mg 2), .int .u8 (mg 3), .int .u8 (mg 4), .int .u8 (mg 5), .int .u8 (mg 6), .int .u8 (mg 7), .int .u32 mf, .int .u32 mt, .int .i64 ms, .int .i64 mc])).run Tryd.prog w = .ok (.bool true) w := by
  rw [eqM, manB_self]
theorem eqM0 (w : World) : (binOp .eql 26 (.agg #[.int .u64 0, .int .i64 0, .int .u32 0, .int .u8 0, .int .u8 0, .int .u8 0, .int .u8 0, .int .u8 0, .int .u8 0, .int .u8 0, .int .u8 0, .int .u32 0, .int .u32 0, .int .i64 0, .int .i64 0]) (.agg #[.int .u64 0, .int .i64 0, .int .u32 0, .int .u8 0, .int .u8 0, .int .u8 0, .int .u8 0, .int .u8 0, .int .u8 0, .int .u8 0, .int .u8 0, .int .u32 0, .int .u32 0, .int .i64 0, .int .i64 0])).run Tryd.prog w = .ok (.bool true) w := eqMs 0 0 0 (fun _ => 0) 0 0 0 0 w
attribute [local go_sem ↓ high] sliced_head eqM0 eqMs
set_option maxHeartbeats 16000000 in
theorem Decodes_law (F : Nat → Int) (q : Option Addr) (n c N : Nat) (e1 : min (n : Int) 60 = (N : Int)) (hF : ∀ j, j < N → inB (F j)) (hnc : n ≤ c) (hcx : c ≤ 9223372036854775807) (w : World) (hg : Has 0 0 CapL w) (hq : Byt w q N F) :
    Calls Tryd.prog 5 #[.slice q n c] w fun e w' => e = .returned (.bool true) ∧ Below w.heap.size w w' := by
  have m0 : (0 : Int) ≤ (N : Int) := by omega
  have mi : (N : Int) ≤ (c : Int) := by omega
  have HG := Lib.hid hg; have HQ := Lib.hid hq
  by_cases hE : decE F N = 0
  · have h35 : N = 35 := by
      unfold decE at hE
      split at hE
      · omega
      · split at hE <;> omega
    subst h35
    have FA := Lib.hid (fun w hg hq => Decode_yes F q 35 c rfl hF w hg hq hE)
    have FB := Lib.hid (fun w hq => RDecode_yes F q 35 c rfl hF (by omega) hcx w hq hE)
    clear hF hE hnc hcx hg hq
    generalize valN F 35 0 8 = x0 at *
    generalize valN F 35 8 1 = x1 at *
    generalize valN F 35 9 4 = x2 at *
    generalize valN F 35 21 4 = x4 at *
    generalize valN F 35 25 4 = x5 at *
    generalize valN F 35 29 4 = x6 at *
    generalize valN F 35 33 2 = x7 at *
    generalize mskN F 35 = G at *
    go_enter Tryd.func5, Tryd.ntmps5
    go_wp2_with (fail)
    go_at_call 18
    refine (FA.out _ HG.out HQ.out).mono ?_
    rintro e w1 ⟨rfl, hb⟩
    have HG1 := Lib.hid (HG.out.later hb)
    have HQ1 := Lib.hid (HQ.out.later hb)
    have hB1 := hb
    clear hb FA HG HQ
    go_upto_region 3 with fail
    obtain ⟨w2, hW⟩ : ∃ w2, w2 = (w1.alloc (.cells #[.int .u64 x0, .int .i64 x1, .int .u32 x2, .int .u8 (G 0), .int .u8 (G 1), .int .u8 (G 2), .int .u8 (G 3), .int .u8 (G 4), .int .u8 (G 5), .int .u8 (G 6), .int .u8 (G 7), .int .u32 x4, .int .u32 x5, .int .i64 x6, .int .i64 x7] 26)) := ⟨_, rfl⟩
    have hBx : Below w1.heap.size w1 w2 := hW ▸ (Below.al (Below.refl _ _))
    have HX : Hid (Own w1.heap.size ([.int .u64 x0, .int .i64 x1, .int .u32 x2, .int .u8 (G 0), .int .u8 (G 1), .int .u8 (G 2), .int .u8 (G 3), .int .u8 (G 4), .int .u8 (G 5), .int .u8 (G 6), .int .u8 (G 7), .int .u32 x4, .int .u32 x5, .int .i64 x6, .int .i64 x7]) w2) := Lib.hid (hW ▸ (show Own w1.heap.size ([.int .u64 x0, .int .i64 x1, .int .u32 x2, .int .u8 (G 0), .int .u8 (G 1), .int .u8 (G 2), .int .u8 (G 3), .int .u8 (G 4), .int .u8 (G 5), .int .u8 (G 6), .int .u8 (G 7), .int .u32 x4, .int .u32 x5, .int .i64 x6, .int .i64 x7]) (w1.alloc (.cells #[.int .u64 x0, .int .i64 x1, .int .u32 x2, .int .u8 (G 0), .int .u8 (G 1), .int .u8 (G 2), .int .u8 (G 3), .int .u8 (G 4), .int .u8 (G 5), .int .u8 (G 6), .int .u8 (G 7), .int .u32 x4, .int .u32 x5, .int .i64 x6, .int .i64 x7] 26)) from Own.newAt (by simp)))
    rw [← hW]
    clear hW
    obtain ⟨X, eX⟩ : ∃ X, X = w1.heap.size := ⟨_, rfl⟩
    rw [← eX] at HX ⊢
    have Xw : w1.heap.size ≤ X := by omega
    clear eX
    have HG2 := Lib.hid (HG1.out.later hBx)
    have HQ2 := Lib.hid (HQ1.out.later hBx)
    have hB2 := Below.go hB1 hBx
    clear HG1 HQ1 hB1 hBx
    go_wp2_with (fail)
    go_at_call 19
    refine (FB.out _ HQ2.out).mono ?_
    rintro e w3 ⟨rfl, hb⟩
    have HG3 := Lib.hid (HG2.out.later hb)
    have HX3 := Lib.hid (HX.out.later hb)
    have hB3 := Below.go hB2 hb
    clear hb FB HG2 HQ2 HX hB2
    go_upto_region 4 with fail
    obtain ⟨w4, hW⟩ : ∃ w4, w4 = (w3.alloc (.cells #[.int .u64 x0, .int .i64 x1, .int .u32 x2, .int .u8 (G 0), .int .u8 (G 1), .int .u8 (G 2), .int .u8 (G 3), .int .u8 (G 4), .int .u8 (G 5), .int .u8 (G 6), .int .u8 (G 7), .int .u32 x4, .int .u32 x5, .int .i64 x6, .int .i64 x7] 26)) := ⟨_, rfl⟩
    have hBx : Below w3.heap.size w3 w4 := hW ▸ (Below.al (Below.refl _ _))
    have HY : Hid (Own w3.heap.size ([.int .u64 x0, .int .i64 x1, .int .u32 x2, .int .u8 (G 0), .int .u8 (G 1), .int .u8 (G 2), .int .u8 (G 3), .int .u8 (G 4), .int .u8 (G 5), .int .u8 (G 6), .int .u8 (G 7), .int .u32 x4, .int .u32 x5, .int .i64 x6, .int .i64 x7]) w4) := Lib.hid (hW ▸ (show Own w3.heap.size ([.int .u64 x0, .int .i64 x1, .int .u32 x2, .int .u8 (G 0), .int .u8 (G 1), .int .u8 (G 2), .int .u8 (G 3), .int .u8 (G 4), .int .u8 (G 5), .int .u8 (G 6), .int .u8 (G 7), .int .u32 x4, .int .u32 x5, .int .i64 x6, .int .i64 x7]) (w3.alloc (.cells #[.int .u64 x0, .int .i64 x1, .int .u32 x2, .int .u8 (G 0), .int .u8 (G 1), .int .u8 (G 2), .int .u8 (G 3), .int .u8 (G 4), .int .u8 (G 5), .int .u8 (G 6), .int .u8 (G 7), .int .u32 x4, .int .u32 x5, .int .i64 x6, .int .i64 x7] 26)) from Own.newAt (by simp)))
    rw [← hW]
    clear hW
    obtain ⟨Y, eY⟩ : ∃ X, X = w3.heap.size := ⟨_, rfl⟩
    rw [← eY] at HY ⊢
    have Yw : w3.heap.size ≤ Y := by omega
    clear eY
    have nYX : Y ≠ X := by have := HX3.out.lt; omega
    have nXY : X ≠ Y := Ne.symm nYX
    have Yw2 : w.heap.size ≤ Y := by have := hB3.size; omega
    clear Yw
    have Yw := Yw2
    clear Yw2
    have HX3k := Lib.hid (HX3.out.later hBx)
    clear HX3
    have HX3 := HX3k
    clear HX3k
    have HG4 := Lib.hid (HG3.out.later hBx)
    have hB3n := Below.go hB3 hBx
    clear hB3 hBx
    have hB3 := hB3n
    clear hB3n
    have oX := HX3.out
    have X0 := oX.at 0 _ rfl
    have X1 := oX.at 1 _ rfl
    have X2 := oX.at 2 _ rfl
    have X3 := oX.at 3 _ rfl
    have X4 := oX.at 4 _ rfl
    have X5 := oX.at 5 _ rfl
    have X6 := oX.at 6 _ rfl
    have X7 := oX.at 7 _ rfl
    have X8 := oX.at 8 _ rfl
    have X9 := oX.at 9 _ rfl
    have X10 := oX.at 10 _ rfl
    have X11 := oX.at 11 _ rfl
    have X12 := oX.at 12 _ rfl
    have X13 := oX.at 13 _ rfl
    have X14 := oX.at 14 _ rfl
    have Xl := oX.lt
    clear oX
    have oY := HY.out
    have Y0 := oY.at 0 _ rfl
    have Y1 := oY.at 1 _ rfl
    have Y2 := oY.at 2 _ rfl
    have Y3 := oY.at 3 _ rfl
    have Y4 := oY.at 4 _ rfl
    have Y5 := oY.at 5 _ rfl
    have Y6 := oY.at 6 _ rfl
    have Y7 := oY.at 7 _ rfl
    have Y8 := oY.at 8 _ rfl
    have Y9 := oY.at 9 _ rfl
    have Y10 := oY.at 10 _ rfl
    have Y11 := oY.at 11 _ rfl
    have Y12 := oY.at 12 _ rfl
    have Y13 := oY.at 13 _ rfl
    have Y14 := oY.at 14 _ rfl
    have Yl := oY.lt
    clear oY
    have HB4 := Lib.hid hB3
    clear HG3 hB3 HX3 HY
    go_wp2_with (fail)
    go_at_call 14
    refine (works12_any _ HG4.out).mono ?_
    rintro e w5 ⟨rfl, hb⟩
    have HB5 := Below.go HB4.out hb
    clear hb HB4 HG4
    go_wp2_with (fail)
    go_ret
    exact ⟨rfl, HB5⟩
  · have FA := Lib.hid (fun w hg hq => Decode_no F q N c hF (by omega) w hg hq hE)
    have FB := Lib.hid (fun w hq => RDecode_no F q N c hF (by omega) hcx w hq hE)
    clear hF hE hnc hcx hg hq
    generalize decE F N = z at *
    go_enter Tryd.func5, Tryd.ntmps5
    go_wp2_with (fail)
    go_at_call 18
    refine (FA.out _ HG.out HQ.out).mono ?_
    rintro e w1 ⟨rfl, hb⟩
    have HG1 := Lib.hid (HG.out.later hb)
    have HQ1 := Lib.hid (HQ.out.later hb)
    have hB1 := hb
    clear hb FA HG HQ
    go_upto_region 3 with fail
    obtain ⟨w2, hW⟩ : ∃ w2, w2 = (w1.alloc (.cells #[.int .u64 0, .int .i64 0, .int .u32 0, .int .u8 0, .int .u8 0, .int .u8 0, .int .u8 0, .int .u8 0, .int .u8 0, .int .u8 0, .int .u8 0, .int .u32 0, .int .u32 0, .int .i64 0, .int .i64 0] 26)) := ⟨_, rfl⟩
    have hBx : Below w1.heap.size w1 w2 := hW ▸ (Below.al (Below.refl _ _))
    have HX : Hid (Own w1.heap.size ([.int .u64 0, .int .i64 0, .int .u32 0, .int .u8 0, .int .u8 0, .int .u8 0, .int .u8 0, .int .u8 0, .int .u8 0, .int .u8 0, .int .u8 0, .int .u32 0, .int .u32 0, .int .i64 0, .int .i64 0]) w2) := Lib.hid (hW ▸ (show Own w1.heap.size ([.int .u64 0, .int .i64 0, .int .u32 0, .int .u8 0, .int .u8 0, .int .u8 0, .int .u8 0, .int .u8 0, .int .u8 0, .int .u8 0, .int .u8 0, .int .u32 0, .int .u32 0, .int .i64 0, .int .i64 0]) (w1.alloc (.cells #[.int .u64 0, .int .i64 0, .int .u32 0, .int .u8 0, .int .u8 0, .int .u8 0, .int .u8 0, .int .u8 0, .int .u8 0, .int .u8 0, .int .u8 0, .int .u32 0, .int .u32 0, .int .i64 0, .int .i64 0] 26)) from Own.newAt (by simp)))
    rw [← hW]
    clear hW
    obtain ⟨X, eX⟩ : ∃ X, X = w1.heap.size := ⟨_, rfl⟩
    rw [← eX] at HX ⊢
    have Xw : w1.heap.size ≤ X := by omega
    clear eX
    have HG2 := Lib.hid (HG1.out.later hBx)
    have HQ2 := Lib.hid (HQ1.out.later hBx)
    have hB2 := Below.go hB1 hBx
    clear HG1 HQ1 hB1 hBx
    go_wp2_with (fail)
    go_at_call 19
    refine (FB.out _ HQ2.out).mono ?_
    rintro e w3 ⟨rfl, hb⟩
    have HG3 := Lib.hid (HG2.out.later hb)
    have HX3 := Lib.hid (HX.out.later hb)
    have hB3 := Below.go hB2 hb
    clear hb FB HG2 HQ2 HX hB2
    go_upto_region 4 with fail
    obtain ⟨w4, hW⟩ : ∃ w4, w4 = (w3.alloc (.cells #[.int .u64 0, .int .i64 0, .int .u32 0, .int .u8 0, .int .u8 0, .int .u8 0, .int .u8 0, .int .u8 0, .int .u8 0, .int .u8 0, .int .u8 0, .int .u32 0, .int .u32 0, .int .i64 0, .int .i64 0] 26)) := ⟨_, rfl⟩
    have hBx : Below w3.heap.size w3 w4 := hW ▸ (Below.al (Below.refl _ _))
    have HY : Hid (Own w3.heap.size ([.int .u64 0, .int .i64 0, .int .u32 0, .int .u8 0, .int .u8 0, .int .u8 0, .int .u8 0, .int .u8 0, .int .u8 0, .int .u8 0, .int .u8 0, .int .u32 0, .int .u32 0, .int .i64 0, .int .i64 0]) w4) := Lib.hid (hW ▸ (show Own w3.heap.size ([.int .u64 0, .int .i64 0, .int .u32 0, .int .u8 0, .int .u8 0, .int .u8 0, .int .u8 0, .int .u8 0, .int .u8 0, .int .u8 0, .int .u8 0, .int .u32 0, .int .u32 0, .int .i64 0, .int .i64 0]) (w3.alloc (.cells #[.int .u64 0, .int .i64 0, .int .u32 0, .int .u8 0, .int .u8 0, .int .u8 0, .int .u8 0, .int .u8 0, .int .u8 0, .int .u8 0, .int .u8 0, .int .u32 0, .int .u32 0, .int .i64 0, .int .i64 0] 26)) from Own.newAt (by simp)))
    rw [← hW]
    clear hW
    obtain ⟨Y, eY⟩ : ∃ X, X = w3.heap.size := ⟨_, rfl⟩
    rw [← eY] at HY ⊢
    have Yw : w3.heap.size ≤ Y := by omega
    clear eY
    have nYX : Y ≠ X := by have := HX3.out.lt; omega
    have nXY : X ≠ Y := Ne.symm nYX
    have Yw2 : w.heap.size ≤ Y := by have := hB3.size; omega
    clear Yw
    have Yw := Yw2
    clear Yw2
    have HX3k := Lib.hid (HX3.out.later hBx)
    clear HX3
    have HX3 := HX3k
    clear HX3k
    have HG4 := Lib.hid (HG3.out.later hBx)
    have hB3n := Below.go hB3 hBx
    clear hB3 hBx
    have hB3 := hB3n
    clear hB3n
    have oX := HX3.out
    have X0 := oX.at 0 _ rfl
    have X1 := oX.at 1 _ rfl
    have X2 := oX.at 2 _ rfl
    have X3 := oX.at 3 _ rfl
    have X4 := oX.at 4 _ rfl
    have X5 := oX.at 5 _ rfl
    have X6 := oX.at 6 _ rfl
    have X7 := oX.at 7 _ rfl
    have X8 := oX.at 8 _ rfl
    have X9 := oX.at 9 _ rfl
    have X10 := oX.at 10 _ rfl
    have X11 := oX.at 11 _ rfl
    have X12 := oX.at 12 _ rfl
    have X13 := oX.at 13 _ rfl
    have X14 := oX.at 14 _ rfl
    have Xl := oX.lt
    clear oX
    have oY := HY.out
    have Y0 := oY.at 0 _ rfl
    have Y1 := oY.at 1 _ rfl
    have Y2 := oY.at 2 _ rfl
    have Y3 := oY.at 3 _ rfl
    have Y4 := oY.at 4 _ rfl
    have Y5 := oY.at 5 _ rfl
    have Y6 := oY.at 6 _ rfl
    have Y7 := oY.at 7 _ rfl
    have Y8 := oY.at 8 _ rfl
    have Y9 := oY.at 9 _ rfl
    have Y10 := oY.at 10 _ rfl
    have Y11 := oY.at 11 _ rfl
    have Y12 := oY.at 12 _ rfl
    have Y13 := oY.at 13 _ rfl
    have Y14 := oY.at 14 _ rfl
    have Yl := oY.lt
    clear oY
    have HB4 := Lib.hid hB3
    clear HG3 hB3 HX3 HY
    go_wp2_with (fail)
    go_at_call 14
    refine (works12_any _ HG4.out).mono ?_
    rintro e w5 ⟨rfl, hb⟩
    have HB5 := Below.go HB4.out hb
    clear hb HB4 HG4
    go_wp2_with (fail)
    go_ret
    exact ⟨rfl, HB5⟩
/-- of any bytes -/
theorem Decodes_core (F : Nat → Int) (q : Option Addr) (n c : Nat) (hF : ∀ j, j < n → inB (F j)) (hnc : n ≤ c) (hcx : c ≤ 9223372036854775807) (w : World) (hg : Has 0 0 CapL w) (hq : Byt w q n F) :
    Calls Tryd.prog 5 #[.slice q n c] w fun e w' => e = .returned (.bool true) ∧ Below w.heap.size w w' :=
  Decodes_law F q n c (min n 60) (by omega) (fun j hj => hF j (by omega)) hnc hcx w hg (byt_take hq (by omega))
end Go.Proofs.YtapkhecebglnlaaDoor
