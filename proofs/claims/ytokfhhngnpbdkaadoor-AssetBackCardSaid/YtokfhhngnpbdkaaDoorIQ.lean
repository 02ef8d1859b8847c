/- asset: works; AssetSame. -/
import Derived.Test.YtokfhhngnpbdkaaDoorIO
import Derived.Lib.Hide
import Derived.LoopN
import Derived.LoopTactic
import Derived.Deep.Onto
import Derived.Deep.RegionHeld3
import Derived.Deep.QuietTactic
import Derived.BigQuiet
import Derived.Great.BuildSlice
import Derived.StillTailTactics
import Derived.Lib.SliceRun
namespace Go.Proofs.YtokfhhngnpbdkaaDoor
set_option linter.unusedVariables false
set_option maxRecDepth 2000
set_option linter.unusedSimpArgs false
open Go.RowKit
def gWk (j : Nat) : Int := [(0 : Int), 0, 0, 0, 258].getD j 0
def aW1 : Ast := ⟨3, nilM, nilX, gWk, fun _ => 0⟩
def aW2 : Ast := ⟨4, nilM, nilX, fun _ => 0, fun _ => 0⟩
theorem aW1_chk : chkA aW1 = 0 := by decide +kernel
theorem aW2_chk : chkA aW2 = 0 := by decide +kernel
theorem aW1_7 : encA aW1 7 = 2 := by decide +kernel
theorem aW1_8 : encA aW1 8 = 1 := by decide +kernel
theorem aW1_few : FewA aW1 := ⟨by decide, by decide, by decide, by decide⟩
theorem aW2_few : FewA aW2 := ⟨by decide, by decide, by decide, by decide⟩
set_option maxHeartbeats 4000000 in
theorem works15_any (w : World) (hg : Has 0 0 CapL w) : Calls Tryd.prog 15 #[] w fun e w' => e = .returned (.bool true) ∧ Below w.heap.size w w' := by
  have GG := Lib.hid hg
  have C1 := Lib.hid (fun w hg => AEncode_any aW1 aW1_few w ⟨nilM_at w, nilX_at w⟩ hg)
  have C2 := Lib.hid (fun w hg => AEncode_any aW2 aW2_few w ⟨nilM_at w, nilX_at w⟩ hg)
  rw [aW1_chk, show encL 0 (lenA aW1) = 9 from rfl] at C1
  rw [aW2_chk, show encL 0 (lenA aW2) = 31 from rfl] at C2
  have E7 := Lib.hid aW1_7; have E8 := Lib.hid aW1_8
  generalize encA aW1 = F at *
  clear hg
  go_enter Tryd.func15, Tryd.ntmps15
  go_wp2_with (fail)
  go_at_call 16
  refine (C1.out _ GG.out).mono ?_
  rintro e w1 ⟨⟨v, rfl, q, c, rfl, hc1, hc2, hy⟩, hb⟩
  have HY := Lib.hid hy; have CC := Lib.hid (And.intro hc1 hc2)
  have G1 := Lib.hid (GG.out.later hb); have HB := Lib.hid hb
  clear hy hc1 hc2 hb C1 GG
  go_wp2_with (fail)
  go_at_call 16
  refine (C2.out _ G1.out).mono ?_
  rintro e w2 ⟨⟨v, rfl, q2, c2, rfl, hd1, hd2, -⟩, hb⟩
  have hy2 := HY.out.later hb
  have HB2 := Lib.hid (Below.go HB.out hb)
  clear hd1 hd2 hb C2 G1 HY HB
  rcases hy2 with h0 | ⟨D, o, rfl, hh⟩
  · cases h0
  have t7 : w2.cell? ⟨D, o + 7, none⟩ = some (.int .u8 (F 7)) := hh.at 7 _ rfl; have t8 : w2.cell? ⟨D, o + 8, none⟩ = some (.int .u8 (F 8)) := hh.at 8 _ rfl
  have Dl := hh.lt
  rw [E7.out] at t7; rw [E8.out] at t8
  have k9 := CC.out.1
  clear hh E7 E8 CC
  go_wp2_with (fail)
  go_ret
  exact ⟨rfl, HB2.out⟩
end Go.Proofs.YtokfhhngnpbdkaaDoor
