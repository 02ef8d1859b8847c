/- ManifestChecks: the example, and the walk. -/
import Derived.Test.YtapkhecebglnlaaDoorGD
import Derived.Lib.Hide
import Derived.LoopN
import Derived.LoopTactic
import Derived.Deep.Onto
import Derived.Deep.RegionHeld3
import Derived.Deep.QuietTactic
import Derived.BigQuiet
namespace Go.Proofs.YtapkhecebglnlaaDoor
set_option linter.unusedVariables false
set_option maxRecDepth 2000
set_option linter.unusedSimpArgs false
open Go.RowKit
theorem chk_40 : checkF 4 (fun _ => 0) 0 0 40 1 = 0 := by decide +kernel
theorem chk_65 : checkF 4 (fun _ => 0) 0 0 65 1 = 9 := by decide +kernel
set_option maxHeartbeats 4000000 in
theorem works12_any (w : World) (hg : Has 0 0 CapL w) : Calls Tryd.prog 14 #[] w fun e w' => e = .returned (.bool true) ∧ Below w.heap.size w w' := by
  have HG := Lib.hid hg
  have C1 := Lib.hid (Check_any 0 4 0 (fun _ => 0) 0 0 40 1 (by decide))
  have C2 := Lib.hid (Check_any 0 4 0 (fun _ => 0) 0 0 65 1 (by decide))
  have K1 := Lib.hid (Chunks_any 257 (by decide))
  rw [chk_40] at C1
  rw [chk_65] at C2
  rw [show chunkF 257 = 2 by decide] at K1
  clear hg
  go_enter Tryd.func14, Tryd.ntmps14
  go_wp2_with (fail)
  go_at_call 12
  refine (C1.out _ HG.out).mono ?_
  rintro e w1 ⟨rfl, hb⟩
  have HG1 := Lib.hid (HG.out.later hb)
  have HB1 := Lib.hid hb
  clear hb HG C1
  go_wp2_with (fail)
  go_at_call 12
  refine (C2.out _ HG1.out).mono ?_
  rintro e w2 ⟨rfl, hb⟩
  have HB2 := Lib.hid (Below.go HB1.out hb)
  clear hb HG1 C2 HB1
  go_wp2_with (fail)
  go_at_call 10
  refine (K1.out _).mono ?_
  rintro e w3 ⟨rfl, hw⟩
  obtain rfl : w2 = w3 := hw.symm
  go_wp2_with (fail)
  go_at_call 20
  refine (Length_any _).mono ?_
  rintro e w3 ⟨rfl, hw⟩
  obtain rfl : w2 = w3 := hw.symm
  go_wp2_with (fail)
  go_ret
  exact ⟨rfl, HB2.out⟩

set_option maxHeartbeats 8000000 in
theorem Checks_law (mi mk ml : Int) (mg : Nat → Int) (mf mt ms mc : Int) (n : Int) (hs : -9223372036854775808 ≤ ms ∧ ms ≤ 9223372036854775807) (hn : -9223372036854775808 ≤ n ∧ n ≤ 9223372036854775807) (w : World) (hg : Has 0 0 CapL w) : Calls Tryd.prog 3 #[(.agg #[.int .u64 mi, .int .i64 mk, .int .u32 ml, .int .u8 (mg 0), .int .u8 (mg 1), .int .u8 (mg 2), .int .u8 (mg 3), .int .u8 (mg 4), .int .u8 (mg 5), .int .u8 (mg 6), .int .u8 (mg 7), .int .u32 mf, .int .u32 mt, .int .i64 ms, .int .i64 mc]), .int .i64 n] w fun e w' => e = .returned (.bool true) ∧ Below w.heap.size w w' := by
  have HG := Lib.hid hg
  have F1 := Lib.hid (Cap_any n)
  have F2 := Lib.hid (RCap_any n)
  have F3 := Lib.hid (Chunks_any n hn)
  have F4 := Lib.hid (RChunks_any n hn)
  have F5 := Lib.hid (Check_any mi mk ml mg mf mt ms mc hs)
  have F6 := Lib.hid (RCheck_any mi mk ml mg mf mt ms mc hs)
  clear hs hn hg
  generalize checkF mk mg mf mt ms mc = z at *
  generalize capF n = q at *
  generalize chunkF n = ch at *
  go_enter Tryd.func3, Tryd.ntmps3
  go_upto_region 1 with fail
  obtain ⟨W0, hW⟩ : ∃ W0, W0 = (w.alloc (.cells #[.int .u64 mi, .int .i64 mk, .int .u32 ml, .int .u8 (mg 0), .int .u8 (mg 1), .int .u8 (mg 2), .int .u8 (mg 3), .int .u8 (mg 4), .int .u8 (mg 5), .int .u8 (mg 6), .int .u8 (mg 7), .int .u32 mf, .int .u32 mt, .int .i64 ms, .int .i64 mc] 26)) := ⟨_, rfl⟩
  have hB0 : Below w.heap.size w W0 := hW ▸ (Below.al (Below.refl _ _))
  have HA : Hid (Own w.heap.size [.int .u64 mi, .int .i64 mk, .int .u32 ml, .int .u8 (mg 0), .int .u8 (mg 1), .int .u8 (mg 2), .int .u8 (mg 3), .int .u8 (mg 4), .int .u8 (mg 5), .int .u8 (mg 6), .int .u8 (mg 7), .int .u32 mf, .int .u32 mt, .int .i64 ms, .int .i64 mc] W0) := Lib.hid (hW ▸ (Own.newAt (by simp)))
  rw [← hW]
  clear hW
  obtain ⟨A, eA⟩ : ∃ X, X = w.heap.size := ⟨_, rfl⟩
  rw [← eA] at HA ⊢
  have Aw : w.heap.size ≤ A := by omega
  clear eA
  have HB0 := Lib.hid hB0
  clear hB0
  have HG0 := Lib.hid (HG.out.later HB0.out)
  clear HG
  have hBd : Below W0.heap.size W0 W0.drew := (Below.refl _ _).drew
  have SH : Hid (∀ w', Below W0.heap.size W0 w' → w'.cell? ⟨A, 0, none⟩ = some (.int .u64 mi) ∧ w'.cell? ⟨A, 1, none⟩ = some (.int .i64 mk) ∧ w'.cell? ⟨A, 2, none⟩ = some (.int .u32 ml) ∧ w'.cell? ⟨A, 3, none⟩ = some (.int .u8 (mg 0)) ∧ w'.cell? ⟨A, 4, none⟩ = some (.int .u8 (mg 1)) ∧ w'.cell? ⟨A, 5, none⟩ = some (.int .u8 (mg 2)) ∧ w'.cell? ⟨A, 6, none⟩ = some (.int .u8 (mg 3)) ∧ w'.cell? ⟨A, 7, none⟩ = some (.int .u8 (mg 4)) ∧ w'.cell? ⟨A, 8, none⟩ = some (.int .u8 (mg 5)) ∧ w'.cell? ⟨A, 9, none⟩ = some (.int .u8 (mg 6)) ∧ w'.cell? ⟨A, 10, none⟩ = some (.int .u8 (mg 7)) ∧ w'.cell? ⟨A, 11, none⟩ = some (.int .u32 mf) ∧ w'.cell? ⟨A, 12, none⟩ = some (.int .u32 mt) ∧ w'.cell? ⟨A, 13, none⟩ = some (.int .i64 ms) ∧ w'.cell? ⟨A, 14, none⟩ = some (.int .i64 mc)) := Lib.hid fun w' hb => ⟨(HA.out.later hb).at 0 _ rfl, (HA.out.later hb).at 1 _ rfl, (HA.out.later hb).at 2 _ rfl, (HA.out.later hb).at 3 _ rfl, (HA.out.later hb).at 4 _ rfl, (HA.out.later hb).at 5 _ rfl, (HA.out.later hb).at 6 _ rfl, (HA.out.later hb).at 7 _ rfl, (HA.out.later hb).at 8 _ rfl, (HA.out.later hb).at 9 _ rfl, (HA.out.later hb).at 10 _ rfl, (HA.out.later hb).at 11 _ rfl, (HA.out.later hb).at 12 _ rfl, (HA.out.later hb).at 13 _ rfl, (HA.out.later hb).at 14 _ rfl⟩
  have Al := HA.out.lt
  go_region_held3 (fun w' => w'.cell? ⟨A, 0, none⟩ = some (.int .u64 mi) ∧ w'.cell? ⟨A, 1, none⟩ = some (.int .i64 mk) ∧ w'.cell? ⟨A, 2, none⟩ = some (.int .u32 ml) ∧ w'.cell? ⟨A, 3, none⟩ = some (.int .u8 (mg 0)) ∧ w'.cell? ⟨A, 4, none⟩ = some (.int .u8 (mg 1)) ∧ w'.cell? ⟨A, 5, none⟩ = some (.int .u8 (mg 2)) ∧ w'.cell? ⟨A, 6, none⟩ = some (.int .u8 (mg 3)) ∧ w'.cell? ⟨A, 7, none⟩ = some (.int .u8 (mg 4)) ∧ w'.cell? ⟨A, 8, none⟩ = some (.int .u8 (mg 5)) ∧ w'.cell? ⟨A, 9, none⟩ = some (.int .u8 (mg 6)) ∧ w'.cell? ⟨A, 10, none⟩ = some (.int .u8 (mg 7)) ∧ w'.cell? ⟨A, 11, none⟩ = some (.int .u32 mf) ∧ w'.cell? ⟨A, 12, none⟩ = some (.int .u32 mt) ∧ w'.cell? ⟨A, 13, none⟩ = some (.int .i64 ms) ∧ w'.cell? ⟨A, 14, none⟩ = some (.int .i64 mc)) (first | exact SH.out _ (by assumption)) (first | (go_at_call 8; (with_reducible refine (F1.out _ (HG0.out.later hBd)).mono ?_); rintro e y1 ⟨rfl, h1⟩; (obtain rfl : W0.drew = y1 := h1.symm)) | (go_at_call 9; (with_reducible refine (F2.out _).mono ?_); rintro e y2 ⟨rfl, h1⟩; (obtain rfl : W0.drew = y2 := h1.symm)) | (go_at_call 10; (with_reducible refine (F3.out _).mono ?_); rintro e y3 ⟨rfl, h1⟩; (obtain rfl : W0.drew = y3 := h1.symm)) | (go_at_call 11; (with_reducible refine (F4.out _).mono ?_); rintro e y4 ⟨rfl, h1⟩; (obtain rfl : W0.drew = y4 := h1.symm)) | (go_at_call 12; (with_reducible refine (F5.out _ (HG0.out.later hBd)).mono ?_); rintro e y5 ⟨rfl, h1⟩; have b5 : Below W0.heap.size W0 y5 := Below.go hBd h1; clear h1) | (go_at_call 13; (with_reducible refine (F6.out _).mono ?_); rintro e y6 ⟨rfl, h1⟩; have b6 : Below W0.heap.size W0 y6 := Below.go b5 h1; clear h1) | (go_at_call 14; (with_reducible refine (works12_any _ (HG0.out.later b6)).mono ?_); rintro e y7 ⟨rfl, h1⟩; have b7 : Below W0.heap.size W0 y7 := Below.go b6 h1; clear h1))
  trace_state
  go_wp2_with (fail)
  go_ret
  exact ⟨rfl, Below.go HB0.out b7⟩
end Go.Proofs.YtapkhecebglnlaaDoor
