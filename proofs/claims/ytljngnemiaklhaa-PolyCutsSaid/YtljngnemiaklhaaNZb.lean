/- PolyCuts: the walk. -/
import Derived.Test.YtljngnemiaklhaaNX
import Derived.Test.YtljngnemiaklhaaNZa
import Derived.Test.YtljngnemiaklhaaCT
import Derived.Test.YtljngnemiaklhaaCU
import Derived.Lib.Hide
import Derived.Deep.QuietTactic
namespace Go.Proofs.Ytljngnemiaklhaa
set_option linter.unusedVariables false
set_option maxRecDepth 2000
set_option linter.unusedSimpArgs false
open Go.RowKit
theorem blk_mark (f : Nat → Int) (N k t : Nat) (ht : t = min 16 (N - 16 * k)) : blkB f N k t = 1 := by
  unfold blkB
  rw [if_neg (by omega), if_pos ht]
theorem blk_zero (f : Nat → Int) (N k j t : Nat) (ht : t = min 16 (N - 16 * k)) (h : t < j) : blkB f N k j = 0 := by
  unfold blkB
  rw [if_neg (by omega), if_neg (by omega)]
theorem blk_byte (f : Nat → Int) (N k j t : Nat) (ht : t = min 16 (N - 16 * k)) (h : j < t) : blkB f N k j = f (16 * k + j) := by
  unfold blkB
  rw [if_pos (by omega)]
theorem st17' (w : World) (f : Nat → Int) (c : Array Value) (hc : c.size = 17) : (storeCells ⟨w.heap.size, 0, none⟩ (nums .u8 f 17)).run Try.prog (w.alloc (.cells c 27)) = .ok () (w.alloc (.cells (nums .u8 f 17).toArray 27)) := st17 w f c hc
attribute [local go_sem] nums_length st17

set_option maxHeartbeats 4000000 in
theorem Cuts_law (f : Nat → Int) (p : Option Addr) (n c m N : Nat) (e : (if 300 < (n : Int) then 300 else (n : Int)) = (N : Int)) (hm : m = (N + 15) / 16) (hnc : n ≤ c) (hc : c ≤ 9223372036854775807) (w : World) (hb : Byt w p N f) :
    Calls Try.prog 9 #[.slice p n c] w fun e w' => e = .returned (.bool true) ∧ Below w.heap.size w w' := by
  have hmn : N ≤ n := by split at e <;> omega
  have hm3 : N ≤ 300 := by split at e <;> omega
  have FW := Lib.hid (fun w => few_any p n c N e (by omega) w)
  have BA := Lib.hid (fun w hb => Blocks_any f p N c N m (by rw [if_neg (by omega)]) (by omega) hc hm w hb)
  have M3 := Lib.hid (show m ≤ 19 by omega)
  have HM := Lib.hid hm
  have N3 := Lib.hid hm3
  have BY := Lib.hid hb
  obtain ⟨i0, hi, hz0, hz1, hz2⟩ := infoB_parts
  clear e hm hnc hc hmn hm3 hb
  go_enter Try.func9, Try.ntmps9
  go_wp2_with (fail)
  go_at_call 11
  refine (FW.out _).mono ?_
  rintro e w1 ⟨rfl, hb⟩
  replace BY := Lib.hid (BY.out.later hb)
  have hB0 : Below w.heap.size w w1 := hb
  clear hb FW
  go_wp2_with (fail)
  go_at_call 10
  refine (BA.out _ BY.out).mono ?_
  rintro e w2 ⟨v, rfl, hrow, hb⟩
  obtain ⟨p1, c1, rfl, hc1⟩ := row_form hrow
  have R1 := Lib.hid (row_byg hrow)
  have C1 := Lib.hid hc1
  replace BY := Lib.hid (BY.out.later hb)
  have HB := Lib.hid (Below.go hB0 hb)
  have BYU := Lib.hid BY.out.upto
  have RLT := Lib.hid (fun X h => (hrow.lt X h).2)
  clear hrow hc1 hb hB0 BA BY
  go_wp2_with (fail)
  go_loopw [4, 14] (fun bv iv wr => ∃ (k : Nat) (p3 : Option Addr) (L c3 : Nat), k ≤ m ∧ L = min (16 * k) N ∧ bv = .slice p3 L c3 ∧ iv = .int .i64 k ∧ Hid (wr.ownsRow w2.heap.size 5 1 (.slice p3 L c3) L (nums .u8 f L)) ∧ Hid (Below w2.heap.size w2 wr)) (fun _ iv _ => (m - (intOf iv).toNat))
  case atStart => exact ⟨0, none, 0, 0, Nat.zero_le _, by omega, rfl, rfl, Lib.hid (World.ownsRow_nil _ _ _ _), Lib.hid (Below.refl _ _)⟩
  case round =>
    obtain ⟨k, p3, L, c3, hk, eL, rfl, rfl, ROW, HB2⟩ := hrel
    by_cases hlt : k < m
    · have R1r := R1.out.later (HB2.out)
      obtain ⟨G, rfl, h1⟩ := R1r.blk hlt
      have HBK := Lib.hid h1
      have k0 : (0 : Int) ≤ (k : Int) := by omega
      have k1 : (k : Int) < (m : Int) := by omega
      have k63 : IntKind.i64.wrap ((k : Int) + 1) = (k : Int) + 1 := IntWalk.i64_in _ (by have := M3.out; omega)
      have m63 : IntKind.i64.wrap ((m : Int) - 1) = (m : Int) - 1 := IntWalk.i64_in _ (by have := M3.out; omega)
      obtain ⟨t, et⟩ : ∃ t, t = min 16 (N - 16 * k) := ⟨_, rfl⟩
      have t1 : 1 ≤ t ∧ t ≤ 16 := by have := HM.out; omega
      have eL2 : L + t = min (16 * (k + 1)) N := by have := HM.out; omega
      have eL3 : L = 16 * k := by have := HM.out; omega
      have ELN := Lib.hid eL2
      have EL3 := Lib.hid eL3
      have ET := Lib.hid et
      have T1 := Lib.hid t1
      have HK := Lib.hid hlt
      have HLST := Lib.hid (show k + 1 < m → t = 16 by intro h; have := HM.out; omega)
      have RX := fun X hX => row_new (X := X) ROW.out hX
      clear h1 hk et t1 eL eL2 eL3 R1r hlt
      go_upto_region 6 with fail
      refine wp_region_lit ?_
      refine wpList_move rfl _ rfl ?_
      refine wpList_plain rfl fun K_ hK => ?_
      go_simp
      refine hK _ _ ?_
      clear hK K_
      refine wpList_load_mid rfl 27 _ rfl G (k * 17) rfl (nums .u8 (blkB f N k) 17) _ HBK.out.cell Try.underlying27 rfl (by kernel_rfl) ?_
      go_upto_region 7 with fail
      have hB0 := HB2.out
      obtain ⟨W3, hW⟩ : ∃ W, W = (wr.alloc (.cells (nums .u8 (blkB f N k) 17).toArray 27)) := ⟨_, rfl⟩
      have HX : Hid (Own wr.heap.size (nums .u8 (blkB f N k) 17) W3) := Lib.hid (hW ▸ Own.newAt rfl)
      have hBx : Below wr.heap.size wr W3 := hW ▸ Below.al (Below.refl _ _)
      rw [← hW]
      clear hW
      obtain ⟨X, eX⟩ : ∃ X, X = wr.heap.size := ⟨_, rfl⟩
      have RXX := RX X (by omega)
      have Xg : w2.heap.size ≤ X := by have := hB0.size; omega
      rw [← eX] at HX ⊢
      clear eX RX
      have ROW2 := Lib.hid (row_later ROW.out hBx)
      have HB3 := Lib.hid (Below.go hB0 hBx)
      clear hBx hB0 ROW HBK HB2
      have NOV := Lib.hid (nums_append .u8 f (blkB f N k) L t (fun j hj => by rw [blk_byte f N k j t ET.out hj, EL3.out]))
      by_cases hl : k + 1 = m
      · have kb : ((k : Int) == (m : Int) - 1) = true := by rw [beq_iff_eq]; omega
        have kb2 : (k : Int) = (m : Int) - 1 := by omega
        clear hl HLST
        go_wp2_with (fail)
        clear kb kb2
        go_loopw [7] (fun jv ws => ∃ (j : Nat), t ≤ j ∧ j ≤ 16 ∧ jv = .int .i64 j ∧ Hid (Own X (nums .u8 (blkB f N k) 17) ws) ∧ Hid (ws.ownsRow w2.heap.size 5 1 (.slice p3 L c3) L (nums .u8 f L)) ∧ Hid (Below w2.heap.size w2 ws)) (fun jv _ => (intOf jv).toNat)
        case atStart => exact ⟨16, T1.out.2, Nat.le_refl _, rfl, HX, ROW2, HB3⟩
        case round =>
          clear HX ROW2 HB3
          obtain ⟨j, hj1, hj2, rfl, HX, ROW2, HB3⟩ := hrel
          have x1 := HX.out.at j _ (nums_at _ _ (by omega))
          have j0 : decide (0 < j) = true := decide_eq_true (by have := T1.out; omega)
          have j0i : (0 : Int) ≤ (j : Int) := by omega
          have j17 : (j : Int) < 17 := by omega
          by_cases hjt : t < j
          · rw [blk_zero f N k j t ET.out hjt] at x1
            obtain ⟨i, ei⟩ : ∃ i : Nat, j = i + 1 := ⟨j - 1, by omega⟩
            have wj : IntKind.i64.wrap ((j : Int) - 1) = (i : Int) := by rw [IntWalk.i64_in _ (by omega)]; omega
            have EI := Lib.hid ei
            have J1 := Lib.hid hj1; have J2 := Lib.hid hj2; have JT := Lib.hid hjt
            clear ei hj1 hj2 hjt
            go_wp2_with (fail)
            go_roundw
            case rel => (first | exact ⟨i, by have := EI.out; have := JT.out; omega, by have := EI.out; have := J2.out; omega, rfl, HX, ROW2, HB3⟩ | ((repeat apply Exists.intro); exact ⟨⟨i, by have := EI.out; have := JT.out; omega, by have := EI.out; have := J2.out; omega, rfl, HX, ROW2, HB3⟩, rfl⟩))
            case measure => (have := EI.out; simp [intOf]; omega)
          · have ejt : j = t := by omega
            subst ejt
            rw [blk_mark f N k j ET.out] at x1
            have j17b : (j : Int) ≤ 17 := by omega
            clear hj1 hj2 hjt
            have NL := Lib.hid (show (nums .u8 (blkB f N k) j).length = j * 1 by rw [nums_length, Nat.mul_one])
            have NW := Lib.hid (own_take HX.out (show j ≤ 17 by have := T1.out; omega))
            have N63 := Lib.hid (show L + j ≤ maxLen by have := ELN.out; have := N3.out; unfold maxLen; omega)
            have NBY := Lib.hid (show (L + j) * 1 ≤ 140737488355328 by have := ELN.out; have := N3.out; omega)
            have HS := Lib.hid HB3.out.size
            go_wp2_with (at_builtin; refine wpList_append_own _ rfl _ _ 22 rfl w2.heap.size 5 i0 (.int .u8 0) 1 1 Try.underlying22 hi hz0 hz1 hz2 rfl (by decide) _ L _ rfl ROW2.out ⟨X, 0, none⟩ j 17 (nums .u8 (blkB f N k) j) rfl NL.out NW.out (nums_one _ _ _) N63.out NBY.out HS.out ?_; intro v' w6 hrow hgr _; obtain ⟨p', c', rfl, _⟩ := row_form hrow; rw [NOV.out] at hrow; have o4 := Lib.hid (HB3.out.grown hgr HB3.out.size fun q hq => row_ge ROW2.out q hq); have o6 := Lib.hid hrow; clear hrow hgr)
            go_roundw
            case rel => (first | exact ⟨k + 1, _, L + j, _, HK.out, ELN.out, rfl, by go_num, o6, o4⟩ | ((repeat apply Exists.intro); exact ⟨⟨k + 1, _, L + j, _, HK.out, ELN.out, rfl, by go_num, o6, o4⟩, rfl⟩))
            case measure => (have := HK.out; simp [intOf]; omega)
      · have t16 : t = 16 := HLST.out (by have := HK.out; omega)
        subst t16
        have kb : ((k : Int) == (m : Int) - 1) = false := by rw [beq_eq_false_iff_ne]; omega
        have x1 := HX.out.at 16 _ (nums_at _ _ (by decide))
        rw [blk_mark f N k 16 ET.out] at x1
        clear hl HLST
        have NL := Lib.hid (show (nums .u8 (blkB f N k) 16).length = 16 * 1 by rw [nums_length, Nat.mul_one])
        have NW := Lib.hid (own_take HX.out (show 16 ≤ 17 by have := T1.out; omega))
        have N63 := Lib.hid (show L + 16 ≤ maxLen by have := ELN.out; have := N3.out; unfold maxLen; omega)
        have NBY := Lib.hid (show (L + 16) * 1 ≤ 140737488355328 by have := ELN.out; have := N3.out; omega)
        have HS := Lib.hid HB3.out.size
        go_wp2_with (at_builtin; refine wpList_append_own _ rfl _ _ 22 rfl w2.heap.size 5 i0 (.int .u8 0) 1 1 Try.underlying22 hi hz0 hz1 hz2 rfl (by decide) _ L _ rfl ROW2.out ⟨X, 0, none⟩ 16 17 (nums .u8 (blkB f N k) 16) rfl NL.out NW.out (nums_one _ _ _) N63.out NBY.out HS.out ?_; intro v' w6 hrow hgr _; obtain ⟨p', c', rfl, _⟩ := row_form hrow; rw [NOV.out] at hrow; have o4 := Lib.hid (HB3.out.grown hgr HB3.out.size fun q hq => row_ge ROW2.out q hq); have o6 := Lib.hid hrow; clear hrow hgr)
        go_roundw
        case rel => (first | exact ⟨k + 1, _, L + 16, _, HK.out, ELN.out, rfl, by go_num, o6, o4⟩ | ((repeat apply Exists.intro); exact ⟨⟨k + 1, _, L + 16, _, HK.out, ELN.out, rfl, by go_num, o6, o4⟩, rfl⟩))
        case measure => (have := HK.out; simp [intOf]; omega)
    · have hkm : k = m := by omega
      subst hkm
      have LN : L = N := by have := HM.out; omega
      subst LN
      have BB := Lib.hid (show Byt wr p3 L f from (byt_row ROW.out).2)
      have BM := Lib.hid (BYU.out.later HB2.out).byt
      have HBE := Lib.hid (Below.trans HB.out (HB2.out.mono HB.out.size))
      have EQC := Lib.hid (Equal_any p3 p L c3 c f wr BB.out BM.out)
      clear hk hlt eL BB BM HB2 ROW
      go_wp2_with (fail)
      go_at_call 22
      refine EQC.out.mono ?_
      rintro e w7 ⟨rfl, hb⟩
      have HB7 := Lib.hid (Below.go HBE.out hb)
      clear HBE hb EQC
      go_wp2_with (fail)
      go_at_call 15
      refine (works_any _).mono ?_
      rintro e w8 ⟨rfl, hb⟩
      have HB8 := Below.go HB7.out hb
      clear HB7 hb
      go_wp2_with (fail)
      go_ret
      exact ⟨rfl, HB8⟩
end Go.Proofs.Ytljngnemiaklhaa
