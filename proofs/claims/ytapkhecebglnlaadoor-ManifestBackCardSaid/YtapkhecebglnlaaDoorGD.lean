/- manifest: the document's Check. -/
import Derived.Test.YtapkhecebglnlaaDoorGC
import Derived.Lib.Hide
import Derived.LoopN
import Derived.LoopTactic
import Derived.Deep.Onto
import Derived.Deep.RegionHeld3
import Derived.Deep.QuietTactic
import Derived.BigQuiet
namespace Go.Proofs.YtapkhecebglnlaaDoor
set_option linter.unusedVariables false
set_option maxRecDepth 2000
set_option linter.unusedSimpArgs false
open Go.RowKit
theorem mask_cell (mi mk ml : Int) (mg : Nat → Int) (mf mt ms mc : Int) (k : Nat) (hk : k < 8) : ([.int .u64 mi, .int .i64 mk, .int .u32 ml, .int .u8 (mg 0), .int .u8 (mg 1), .int .u8 (mg 2), .int .u8 (mg 3), .int .u8 (mg 4), .int .u8 (mg 5), .int .u8 (mg 6), .int .u8 (mg 7), .int .u32 mf, .int .u32 mt, .int .i64 ms, .int .i64 mc] : List Value)[3 + k]? = some (.int .u8 (mg k)) := match k, hk with
  | 0, _ => rfl
  | 1, _ => rfl
  | 2, _ => rfl
  | 3, _ => rfl
  | 4, _ => rfl
  | 5, _ => rfl
  | 6, _ => rfl
  | 7, _ => rfl

set_option maxHeartbeats 8000000 in
theorem RCheck_any (mi mk ml : Int) (mg : Nat → Int) (mf mt ms mc : Int) (hs : -9223372036854775808 ≤ ms ∧ ms ≤ 9223372036854775807) (w : World) : Calls Tryd.prog 13 #[(.agg #[.int .u64 mi, .int .i64 mk, .int .u32 ml, .int .u8 (mg 0), .int .u8 (mg 1), .int .u8 (mg 2), .int .u8 (mg 3), .int .u8 (mg 4), .int .u8 (mg 5), .int .u8 (mg 6), .int .u8 (mg 7), .int .u32 mf, .int .u32 mt, .int .i64 ms, .int .i64 mc])] w fun e w' => e = .returned (.int .i64 (checkF mk mg mf mt ms mc)) ∧ Below w.heap.size w w' := by
  have FK := Lib.hid (RCap_any mk)
  have FC := Lib.hid (RChunks_any ms hs)
  have MA := Lib.hid (mask_cell mi mk ml mg mf mt ms mc)
  have MN := Lib.hid (fun k hk h => @maskB_no mg k hk h)
  have MY := Lib.hid ((@maskB_yes mg).2)
  have VA := Lib.hid (@chk_a mk mg mf mt ms mc); have VB := Lib.hid (@chk_b mk mg mf mt ms mc); have VE := Lib.hid (@chk_e mk mg mf mt ms mc); have VF := Lib.hid (@chk_f mk mg mf mt ms mc); have VG := Lib.hid (@chk_g mk mg mf mt ms mc)
  clear hs
  generalize checkF mk mg mf mt ms mc = z at *
  generalize capF mk = q at *
  generalize chunkF ms = ch at *
  go_enter Tryd.func13, Tryd.ntmps13
  go_upto_region 1 with fail
  obtain ⟨W0, hW⟩ : ∃ W0, W0 = (w.alloc (.cells #[.int .u64 mi, .int .i64 mk, .int .u32 ml, .int .u8 (mg 0), .int .u8 (mg 1), .int .u8 (mg 2), .int .u8 (mg 3), .int .u8 (mg 4), .int .u8 (mg 5), .int .u8 (mg 6), .int .u8 (mg 7), .int .u32 mf, .int .u32 mt, .int .i64 ms, .int .i64 mc] 26)) := ⟨_, rfl⟩
  have hB0 : Below w.heap.size w W0 := hW ▸ (Below.al (Below.refl _ _))
  have HA : Hid (Own w.heap.size [.int .u64 mi, .int .i64 mk, .int .u32 ml, .int .u8 (mg 0), .int .u8 (mg 1), .int .u8 (mg 2), .int .u8 (mg 3), .int .u8 (mg 4), .int .u8 (mg 5), .int .u8 (mg 6), .int .u8 (mg 7), .int .u32 mf, .int .u32 mt, .int .i64 ms, .int .i64 mc] W0) := Lib.hid (hW ▸ (Own.newAt (by simp)))
  rw [← hW]
  clear hW
  obtain ⟨A, eA⟩ : ∃ X, X = w.heap.size := ⟨_, rfl⟩
  rw [← eA] at HA ⊢
  have Aw : w.heap.size ≤ A := by omega
  clear eA
  have HB0 := Lib.hid hB0
  clear hB0
  have oA := HA.out
  have A1 := oA.at 1 _ rfl
  have Al := oA.lt
  clear oA
  go_wp2_with (fail)
  go_at_call 9
  refine (FK.out _).mono ?_
  rintro e y1 ⟨rfl, hw⟩
  obtain rfl : W0 = y1 := hw.symm
  by_cases ha : q = 0
  · have HV := Lib.hid (VA.out ha)
    subst ha
    clear VA VB VE VF VG FC FK MA MN MY
    go_wp2_with (fail)
    go_ret
    exact ⟨by rw [HV.out]; rfl, HB0.out⟩
  have hqb : (q == 0) = false := by simpa using ha
  have hqd : decide (q = 0) = false := decide_eq_false ha
  clear A1
  go_wp2_with (fail)
  go_loopw [3] (fun iv wr => ∃ (k : Nat), k ≤ 8 ∧ iv = .int .i64 k ∧ Hid (∀ j, j < k → mg j ≤ 15) ∧ W0 = wr) (fun iv _ => (8 - (intOf iv).toNat))
  case atStart => exact ⟨0, Nat.zero_le _, rfl, Lib.hid (fun j hj => absurd hj (Nat.not_lt_zero j)), (by first | rfl | trivial)⟩
  case round =>
    obtain ⟨k, hk, rfl, HM, rfl⟩ := hrel
    by_cases hlt : k < 8
    · have hcell := HA.out.at (3 + k) _ (MA.out k hlt)
      have hki : (k : Int) < 8 := by omega
      have k0 : (0 : Int) ≤ (k : Int) := by omega
      by_cases hb : 15 < mg k
      · have HV := Lib.hid (VB.out ha (.inl (MN.out k hlt hb)))
        have e1 : decide (16 ≤ mg k) = true := decide_eq_true (by omega)
        generalize mg k = x at hcell e1
        clear VA VB VE VF VG FC FK MA MN MY hb HM
        go_wp2_with (fail)
        go_ret
        exact ⟨by rw [HV.out]; rfl, HB0.out⟩
      · have e1 : decide (16 ≤ mg k) = false := decide_eq_false (by omega)
        have HX : Hid (∀ j, j < k + 1 → mg j ≤ 15) := Lib.hid fun j hj => by
          by_cases e : j < k
          · exact HM.out j e
          · obtain rfl : j = k := by omega
            omega
        have HLT := Lib.hid (show k + 1 ≤ 8 by omega)
        have wk : IntKind.i64.wrap ((k : Int) + 1) = (k : Int) + 1 := IntWalk.i64_in _ (by omega)
        generalize mg k = x at hcell e1
        clear VA VB VE VF VG FC FK MA MN MY hb HM
        go_wp2_with (fail)
        go_roundw
        case rel => exact ⟨k + 1, HLT.out, by go_num, HX, (by first | rfl | trivial)⟩
        case measure => (have := HLT.out; simp [intOf]; omega)
    · obtain rfl : k = 8 := by omega
      have hm := MY.out HM.out
      clear hlt hk HM MN MY MA
      have oA := HA.out
      have A1 := oA.at 1 _ rfl
      have A11 := oA.at 11 _ rfl
      have A12 := oA.at 12 _ rfl
      have A13 := oA.at 13 _ rfl
      have A14 := oA.at 14 _ rfl
      have Al := oA.lt
      clear oA
      by_cases hc : mt < mf
      · have HV := Lib.hid (VB.out ha (.inr (.inl hc)))
        have d1 : decide (mt < mf) = true := decide_eq_true hc
        clear VA VB VE VF VG FC FK
        go_wp2_with (fail)
        go_ret
        exact ⟨by rw [HV.out]; rfl, HB0.out⟩
      have d1 : decide (mt < mf) = false := decide_eq_false hc
      by_cases hd : ms < 1
      · have HV := Lib.hid (VB.out ha (.inr (.inr hd)))
        have d2 : decide (ms < 1) = true := decide_eq_true hd
        clear VA VB VE VF VG FC FK
        go_wp2_with (fail)
        go_ret
        exact ⟨by rw [HV.out]; rfl, HB0.out⟩
      have d2 : decide (ms < 1) = false := decide_eq_false hd
      have hn : ¬(maskB mg = false ∨ mt < mf ∨ ms < 1) := by rw [hm]; simp; omega
      clear hm
      by_cases hh : q < ms
      · have HV := Lib.hid (VE.out ha hn hh)
        have d3 : decide (q < ms) = true := decide_eq_true hh
        clear VA VB VE VF VG FC hn
        go_wp2_with (fail)
        go_quiet (first | (go_at_call 9; exact Calls.quiet_of_same (FK.out _)))
        go_wp2_with (fail)
        go_ret
        exact ⟨by rw [HV.out]; rfl, below_drewN HB0.out _⟩
      have d3 : decide (q < ms) = false := decide_eq_false hh
      by_cases hi : mc = ch
      · have HV := Lib.hid (VG.out ha hn (by omega) hi)
        have d4 : (mc != ch) = false := by simpa using hi
        clear VA VB VE VF VG hn
        go_wp2_with (fail)
        go_quiet (first | (go_at_call 9; exact Calls.quiet_of_same (FK.out _)))
        obtain ⟨w6, e6⟩ : ∃ x, x = World.drewN W0 nq := ⟨_, rfl⟩
        have hBd6 : Below W0.heap.size W0 w6 := e6 ▸ below_drewN (Below.refl _ _) _
        rw [← e6]
        have HA6 := Lib.hid (HA.out.later hBd6)
        have HB6 := Lib.hid (Below.go HB0.out hBd6)
        clear e6 hBd6 HA A1 A11 A12 A13 A14 Al
        have oA := HA6.out
        have A1 := oA.at 1 _ rfl
        have A11 := oA.at 11 _ rfl
        have A12 := oA.at 12 _ rfl
        have A13 := oA.at 13 _ rfl
        have A14 := oA.at 14 _ rfl
        have Al := oA.lt
        clear oA
        go_wp2_with (fail)
        go_quiet (first | (go_at_call 11; exact Calls.quiet_of_same (FC.out _)))
        go_wp2_with (fail)
        go_ret
        exact ⟨by rw [HV.out]; rfl, below_drewN HB6.out _⟩
      · have HV := Lib.hid (VF.out ha hn (by omega) hi)
        have d4 : (mc != ch) = true := by simpa using hi
        clear VA VB VE VF VG hn
        go_wp2_with (fail)
        go_quiet (first | (go_at_call 9; exact Calls.quiet_of_same (FK.out _)))
        obtain ⟨w6, e6⟩ : ∃ x, x = World.drewN W0 nq := ⟨_, rfl⟩
        have hBd6 : Below W0.heap.size W0 w6 := e6 ▸ below_drewN (Below.refl _ _) _
        rw [← e6]
        have HA6 := Lib.hid (HA.out.later hBd6)
        have HB6 := Lib.hid (Below.go HB0.out hBd6)
        clear e6 hBd6 HA A1 A11 A12 A13 A14 Al
        have oA := HA6.out
        have A1 := oA.at 1 _ rfl
        have A11 := oA.at 11 _ rfl
        have A12 := oA.at 12 _ rfl
        have A13 := oA.at 13 _ rfl
        have A14 := oA.at 14 _ rfl
        have Al := oA.lt
        clear oA
        go_wp2_with (fail)
        go_quiet (first | (go_at_call 11; exact Calls.quiet_of_same (FC.out _)))
        go_wp2_with (fail)
        go_ret
        exact ⟨by rw [HV.out]; rfl, below_drewN HB6.out _⟩
end Go.Proofs.YtapkhecebglnlaaDoor
