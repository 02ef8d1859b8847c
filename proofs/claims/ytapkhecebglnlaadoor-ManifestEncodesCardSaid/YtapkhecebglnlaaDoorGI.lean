/- ManifestEncodes: the walk. -/
import Derived.Test.YtapkhecebglnlaaDoorGH
import Derived.Test.YtapkhecebglnlaaDoorGE
import Derived.Test.YtapkhecebglnlaaDoorPM
import Derived.Test.YtapkhecebglnlaaDoorCW
import Derived.Lib.Hide
import Derived.LoopN
import Derived.LoopTactic
import Derived.Deep.Onto
import Derived.Deep.RegionHeld3
import Derived.Deep.QuietTactic
import Derived.BigQuiet
namespace Go.Proofs.YtapkhecebglnlaaDoor
set_option linter.unusedVariables false
set_option maxRecDepth 2000
set_option linter.unusedSimpArgs false
open Go.RowKit
set_option maxHeartbeats 8000000 in
theorem Encodes_law (mi mk ml : Int) (mg : Nat → Int) (mf mt ms mc : Int) (IM : InM mi mk ml mg mf mt ms mc) (w : World) (hg : Has 0 0 CapL w) : Calls Tryd.prog 4 #[(.agg #[.int .u64 mi, .int .i64 mk, .int .u32 ml, .int .u8 (mg 0), .int .u8 (mg 1), .int .u8 (mg 2), .int .u8 (mg 3), .int .u8 (mg 4), .int .u8 (mg 5), .int .u8 (mg 6), .int .u8 (mg 7), .int .u32 mf, .int .u32 mt, .int .i64 ms, .int .i64 mc])] w fun e w' => e = .returned (.bool true) ∧ Below w.heap.size w w' := by
  have HG := Lib.hid hg
  have FA := Lib.hid (Encode_any mi mk ml mg mf mt ms mc IM.hi IM.hl IM.hg IM.hf IM.ht IM.hs)
  have FB := Lib.hid (REncode_any mi mk ml mg mf mt ms mc IM.hi IM.hl IM.hg IM.hf IM.ht IM.hs)
  clear IM hg
  generalize checkF mk mg mf mt ms mc = z at *
  generalize encL z = L at *
  generalize encF mi mk ml mg mf mt ms mc = E at *
  go_enter Tryd.func4, Tryd.ntmps4
  go_upto_region 1 with fail
  obtain ⟨W0, hW⟩ : ∃ W0, W0 = (w.alloc (.cells #[.int .u64 mi, .int .i64 mk, .int .u32 ml, .int .u8 (mg 0), .int .u8 (mg 1), .int .u8 (mg 2), .int .u8 (mg 3), .int .u8 (mg 4), .int .u8 (mg 5), .int .u8 (mg 6), .int .u8 (mg 7), .int .u32 mf, .int .u32 mt, .int .i64 ms, .int .i64 mc] 26)) := ⟨_, rfl⟩
  have hB0 : Below w.heap.size w W0 := hW ▸ (Below.al (Below.refl _ _))
  have HA : Hid (Own w.heap.size [.int .u64 mi, .int .i64 mk, .int .u32 ml, .int .u8 (mg 0), .int .u8 (mg 1), .int .u8 (mg 2), .int .u8 (mg 3), .int .u8 (mg 4), .int .u8 (mg 5), .int .u8 (mg 6), .int .u8 (mg 7), .int .u32 mf, .int .u32 mt, .int .i64 ms, .int .i64 mc] W0) := Lib.hid (hW ▸ (Own.newAt (by simp)))
  rw [← hW]
  clear hW
  obtain ⟨A, eA⟩ : ∃ X, X = w.heap.size := ⟨_, rfl⟩
  rw [← eA] at HA ⊢
  have Aw : w.heap.size ≤ A := by omega
  clear eA
  have HB0 := Lib.hid hB0
  clear hB0
  have HG0 := Lib.hid (HG.out.later HB0.out)
  clear HG
  have oA := HA.out
  have A0 := oA.at 0 _ rfl
  have A1 := oA.at 1 _ rfl
  have A2 := oA.at 2 _ rfl
  have A3 := oA.at 3 _ rfl
  have A4 := oA.at 4 _ rfl
  have A5 := oA.at 5 _ rfl
  have A6 := oA.at 6 _ rfl
  have A7 := oA.at 7 _ rfl
  have A8 := oA.at 8 _ rfl
  have A9 := oA.at 9 _ rfl
  have A10 := oA.at 10 _ rfl
  have A11 := oA.at 11 _ rfl
  have A12 := oA.at 12 _ rfl
  have A13 := oA.at 13 _ rfl
  have A14 := oA.at 14 _ rfl
  have Al := oA.lt
  clear oA
  go_wp2_with (fail)
  go_at_call 15
  refine (FA.out _ HG0.out).mono ?_
  rintro e w1 ⟨v1, rfl, hr, hb⟩
  have R1 := Lib.hid hr
  have HG1 := Lib.hid (HG0.out.later hb)
  have HA1 := Lib.hid (HA.out.later hb)
  have HB1 := Lib.hid (Below.go HB0.out hb)
  clear hr hb HG0 HA HB0 FA A0 A1 A2 A3 A4 A5 A6 A7 A8 A9 A10 A11 A12 A13 A14 Al
  have oA := HA1.out
  have A0 := oA.at 0 _ rfl
  have A1 := oA.at 1 _ rfl
  have A2 := oA.at 2 _ rfl
  have A3 := oA.at 3 _ rfl
  have A4 := oA.at 4 _ rfl
  have A5 := oA.at 5 _ rfl
  have A6 := oA.at 6 _ rfl
  have A7 := oA.at 7 _ rfl
  have A8 := oA.at 8 _ rfl
  have A9 := oA.at 9 _ rfl
  have A10 := oA.at 10 _ rfl
  have A11 := oA.at 11 _ rfl
  have A12 := oA.at 12 _ rfl
  have A13 := oA.at 13 _ rfl
  have A14 := oA.at 14 _ rfl
  have Al := oA.lt
  clear oA
  go_wp2_with (fail)
  go_at_call 16
  refine (FB.out _).mono ?_
  rintro e w2 ⟨v2, rfl, hr, hb⟩
  have R2 := Lib.hid hr
  have R3 := Lib.hid (R1.out.later hb (Nat.le_refl _))
  have HG2 := Lib.hid (HG1.out.later hb)
  have HB2 := Lib.hid (Below.go HB1.out hb)
  clear hr hb HG1 HA1 HB1 R1 FB A0 A1 A2 A3 A4 A5 A6 A7 A8 A9 A10 A11 A12 A13 A14 Al
  go_wp2_with (fail)
  go_at_call 17
  refine (Equal_R _ _ L E _ R3.out R2.out).mono ?_
  rintro e w3 ⟨rfl, hb⟩
  have HG3 := Lib.hid (HG2.out.later hb)
  have HB3 := Lib.hid (Below.go HB2.out hb)
  clear hb HG2 HB2 R3 R2
  go_wp2_with (fail)
  go_at_call 14
  refine (works12_any _ HG3.out).mono ?_
  rintro e w4 ⟨rfl, hb⟩
  have HB4 := Lib.hid (Below.go HB3.out hb)
  clear hb HB3 HG3
  go_wp2_with (fail)
  go_ret
  exact ⟨rfl, HB4.out⟩
end Go.Proofs.YtapkhecebglnlaaDoor
