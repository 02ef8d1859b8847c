/- ShaWhole: the walk. -/
import Derived.Test.YtajejlaoompieaaDoorHR
import Derived.Test.YtajejlaoompieaaDoorHH
import Derived.Lib.Hide
import Derived.LoopN
import Derived.LoopTactic
import Derived.Deep.Onto
namespace Go.Proofs.YtajejlaoompieaaDoor
set_option linter.unusedVariables false
set_option maxRecDepth 2000
set_option linter.unusedSimpArgs false
open Go.RowKit
/-- the number that the first k bytes of the padding's length tell, the length's first byte being the y-th -/
def bitsF (N y k : Nat) : Nat := if k ≤ y then 0 else 8 * N / 2 ^ (64 - 8 * (k - y))
theorem bits_low (N y k : Nat) (hk : k ≤ y) : bitsF N y k = 0 := if_pos hk
theorem bits_zero (N y : Nat) (hN : N < 65536) : bitsF N y y = 8 * N / 2 ^ (64 - 8 * (y - y)) := by
  rw [bits_low _ _ _ (Nat.le_refl _), Nat.sub_self]
  exact (Nat.div_eq_of_lt (by omega)).symm
theorem bits_next (N y k : Nat) (hN : N < 65536) (h1 : y ≤ k) (h2 : k < y + 8) : bitsF N y k * 256 + 8 * N / 2 ^ (56 - 8 * (k - y)) % 256 = bitsF N y (k + 1) := by
  have e1 : bitsF N y k = 8 * N / 2 ^ (56 - 8 * (k - y)) / 256 := by
    rw [Nat.div_div_eq_div_mul, show 256 = 2 ^ 8 from rfl, ← Nat.pow_add, show 56 - 8 * (k - y) + 8 = 64 - 8 * (k - y) by omega]
    by_cases h : k = y
    · subst h; exact bits_zero N k hN
    · unfold bitsF; rw [if_neg (by omega)]
  have e2 : bitsF N y (k + 1) = 8 * N / 2 ^ (56 - 8 * (k - y)) := by
    unfold bitsF
    rw [if_neg (by omega), show 64 - 8 * (k + 1 - y) = 56 - 8 * (k - y) by omega]
  rw [e1, e2]
  omega
theorem bits_all (N y : Nat) : bitsF N y (y + 8) = 8 * N := by
  unfold bitsF
  rw [if_neg (by omega), show 64 - 8 * (y + 8 - y) = 0 by omega, Nat.pow_zero, Nat.div_one]
theorem bits_lt (N y k : Nat) : bitsF N y k ≤ 8 * N := by
  unfold bitsF
  split
  · omega
  · exact Nat.div_le_self _ _
theorem pad_end (N k : Nat) (hN : N < 65536) (h1 : 1 + zer N ≤ k) : padF N k = ((8 * N / 2 ^ (56 - 8 * (k - (1 + zer N))) % 256 : Nat) : Int) := by
  unfold padF lenW
  rw [if_neg (by omega), if_neg (by omega), show k - 1 - zer N = k - (1 + zer N) by omega]
  rw [show (8 * (N : Int) % 18446744073709551616) = ((8 * N : Nat) : Int) by omega, ← Int.natCast_ediv]
  push_cast
  rfl
theorem pad_mid (N k : Nat) (h0 : 0 < k) (h1 : k < 1 + zer N) : padF N k = 0 := by
  unfold padF
  rw [if_neg (by omega), if_pos h1]

set_option maxHeartbeats 4000000 in
theorem Whole_core (n : Int) (hn : 0 ≤ n ∧ n < 65536) (w : World) (hG : Has 0 0 (nums .u32 kC 64) w) (hH : Has 1 0 (nums .u32 hC 8) w) : Calls Tryd.prog 8 #[.int .u16 n] w fun e w' => e = .returned (.bool true) ∧ Below w.heap.size w w' := by
  have HG := Lib.hid hG; have HH := Lib.hid hH
  obtain ⟨N, rfl⟩ : ∃ N : Nat, n = (N : Int) := ⟨n.toNat, by omega⟩
  have hN : N < 65536 := by omega
  have PC := Lib.hid (fun w => Pad_any (N : Int) N (by omega) (by omega) w)
  have wN : IntKind.i64.wrap (N : Int) = (N : Int) := IntWalk.i64_in _ (by omega)
  obtain ⟨y, ey⟩ : ∃ y, 1 + zer N = y := ⟨_, rfl⟩
  obtain ⟨L, eL⟩ : ∃ L, plen N = L := ⟨_, rfl⟩
  have hL : L = y + 8 := by rw [← eL, ← ey]; unfold plen; omega
  have hy : y ≤ 64 ∧ 1 ≤ y := by have := zer_lt N; omega
  have hw := plen_whole N
  rw [eL] at hw PC
  have NY := Lib.hid (show L = y + 8 ∧ y ≤ 64 ∧ 1 ≤ y ∧ N < 65536 from ⟨hL, hy.1, hy.2, hN⟩)
  have EY := Lib.hid ey
  obtain ⟨M, eM⟩ : ∃ M, N + L = M := ⟨_, rfl⟩
  rw [eM] at hw
  have s1 : (N : Int) + (L : Int) = (M : Int) := by omega
  have wM : IntKind.i64.wrap (M : Int) = (M : Int) := IntWalk.i64_in _ (by omega)
  have m1 : (M : Int).tmod 64 = 0 := by rw [Int.tmod_eq_emod_of_nonneg (by omega)]; omega
  have m2 : (M : Int) % 64 = 0 := by omega
  have g1 : decide ((L : Int) < 9) = false := decide_eq_false (by omega)
  have g1n : decide (L < 9) = false := decide_eq_false (by omega)
  have g2 : decide ((72 : Int) < (L : Int)) = false := decide_eq_false (by omega)
  have g2n : decide (72 < L) = false := decide_eq_false (by omega)
  have L0 : (0 : Int) < (L : Int) := by omega
  have L0n : 0 < L := by omega
  clear hG hH hw eM hL hy ey
  go_enter Tryd.func8, Tryd.ntmps8
  go_wp2_with (fail)
  go_at_call 11
  refine (PC.out _).mono ?_
  rintro e w1 ⟨v1, rfl, hr1, hb1⟩
  obtain ⟨X, c1, rfl, _, hXl⟩ := row_blk hr1 L0n
  have HX := Lib.hid (row_has hr1).1
  have HB := Lib.hid hb1
  have x0 := (row_has hr1).1.cell 0 _ (nums_at .u8 _ L0n)
  rw [show padF N 0 = 128 from rfl, Nat.zero_add] at x0
  clear hr1 hb1 PC
  go_wp2_with (fail)
  clear g1 g1n g2 g2n x0 hXl
  go_loopw [4, 35] (fun bv iv wr => ∃ (k b : Nat), k ≤ L ∧ bitsF N y k = b ∧ bv = .int .i64 b ∧ iv = .int .i64 k ∧ Hid (Below w.heap.size w wr) ∧ Hid (Has X 0 (nums .u8 (padF N) L) wr)) (fun _ iv _ => (L - (intOf iv).toNat))
  case atStart => exact ⟨0, 0, Nat.zero_le _, bits_low _ _ _ (Nat.zero_le _), rfl, rfl, HB, HX⟩
  case round =>
    clear HB HX
    obtain ⟨k, b, hk, eb, rfl, rfl, HB, HX⟩ := hrel
    have sy : (L : Int) - 8 = (y : Int) := by have := NY.out; omega
    have wy : IntKind.i64.wrap (y : Int) = (y : Int) := IntWalk.i64_in _ (by have := NY.out; omega)
    by_cases hlt : k < L
    · have XC := HX.out.cell k _ (nums_at .u8 _ hlt)
      rw [Nat.zero_add] at XC
      have Xl := HX.out.lt
      have hki : (k : Int) < (L : Int) := by omega
      have k0 : (0 : Int) ≤ (k : Int) := by omega
      have wk : IntKind.i64.wrap ((k : Int) + 1) = (k : Int) + 1 := IntWalk.i64_in _ (by have := NY.out; omega)
      have HLT := Lib.hid hlt
      by_cases hk0 : k = 0
      · subst hk0
        have EB2 := Lib.hid (show bitsF N y (0 + 1) = b by rw [← eb, bits_low _ _ _ (by have := NY.out; omega), bits_low _ _ _ (Nat.zero_le _)])
        have g4 : decide ((y : Int) ≤ 0) = false := decide_eq_false (by have := NY.out; omega)
        have g4n : decide (y ≤ 0) = false := decide_eq_false (by have := NY.out; omega)
        have g5n : ¬ (y = 0) := by have := NY.out; omega
        rw [show padF N 0 = 128 from rfl] at XC
        clear hlt hk eb
        go_wp2_with (fail)
        go_roundw
        case rel => (first | exact ⟨1, b, HLT.out, EB2.out, rfl, by go_num, HB, HX⟩ | ((repeat apply Exists.intro); exact ⟨⟨1, b, HLT.out, EB2.out, rfl, by go_num, HB, HX⟩, rfl⟩))
        case measure => (have := HLT.out; simp [intOf]; omega)
      · have g3 : decide ((0 : Int) < (k : Int)) = true := decide_eq_true (by omega)
        have g3n : decide (0 < k) = true := decide_eq_true (by omega)
        by_cases hky : k < y
        · have g4 : decide ((y : Int) ≤ (k : Int)) = false := decide_eq_false (by omega)
          have g4n : decide (y ≤ k) = false := decide_eq_false (by omega)
          have g5 : decide ((k : Int) < (y : Int)) = true := decide_eq_true (by omega)
          have g5n : decide (k < y) = true := decide_eq_true (by omega)
          have EB2 := Lib.hid (show bitsF N y (k + 1) = b by rw [← eb, bits_low _ _ _ (by omega), bits_low _ _ _ (by omega)])
          rw [pad_mid N k (by omega) (by have := EY.out; omega)] at XC
          clear hlt hk eb hk0 hky
          go_wp2_with (fail)
          go_roundw
          case rel => (first | exact ⟨k + 1, b, HLT.out, EB2.out, rfl, by go_num, HB, HX⟩ | ((repeat apply Exists.intro); exact ⟨⟨k + 1, b, HLT.out, EB2.out, rfl, by go_num, HB, HX⟩, rfl⟩))
          case measure => (have := HLT.out; simp [intOf]; omega)
        · have g4 : decide ((y : Int) ≤ (k : Int)) = true := decide_eq_true (by omega)
          have g4n : decide (y ≤ k) = true := decide_eq_true (by omega)
          have g5 : decide ((k : Int) < (y : Int)) = false := decide_eq_false (by omega)
          have g5n : decide (k < y) = false := decide_eq_false (by omega)
          have PE := pad_end N k NY.out.2.2.2 (by have := EY.out; omega)
          rw [EY.out] at PE
          have BN := bits_next N y k NY.out.2.2.2 (by omega) (by have := NY.out; omega)
          obtain ⟨v, ev⟩ : ∃ v, 8 * N / 2 ^ (56 - 8 * (k - y)) % 256 = v := ⟨_, rfl⟩
          have hv : v < 256 := by omega
          rw [ev] at PE BN
          rw [PE] at XC
          rw [eb] at BN
          have EB2 := Lib.hid BN.symm
          have hb8 : b ≤ 524288 := by have := bits_lt N y k; omega
          obtain ⟨p, ep⟩ : ∃ p, b * 256 = p := ⟨_, rfl⟩
          rw [ep] at EB2
          obtain ⟨b2, eb2⟩ : ∃ b2, p + v = b2 := ⟨_, rfl⟩
          rw [eb2] at EB2
          have q1 : (b : Int) * 256 = (p : Int) := by omega
          have q2 : (p : Int) + (v : Int) = (b2 : Int) := by omega
          have wp : IntKind.i64.wrap (p : Int) = (p : Int) := IntWalk.i64_in _ (by omega)
          have wb2 : IntKind.i64.wrap (b2 : Int) = (b2 : Int) := IntWalk.i64_in _ (by omega)
          have wv : IntKind.i64.wrap (v : Int) = (v : Int) := IntWalk.i64_in _ (by omega)
          clear hlt hk eb hk0 hky ev PE BN ep eb2 hv hb8
          go_wp2_with (fail)
          go_roundw
          case rel => (first | exact ⟨k + 1, b2, HLT.out, EB2.out, rfl, by go_num, HB, HX⟩ | ((repeat apply Exists.intro); exact ⟨⟨k + 1, b2, HLT.out, EB2.out, rfl, by go_num, HB, HX⟩, rfl⟩))
          case measure => (have := HLT.out; simp [intOf]; omega)
    · obtain rfl : k = L := by omega
      have b8 : b = 8 * N := by rw [← eb, NY.out.1, bits_all]
      have q1 : 8 * (N : Int) = (b : Int) := by omega
      have wb : IntKind.i64.wrap (b : Int) = (b : Int) := IntWalk.i64_in _ (by have := NY.out; omega)
      have G3 := HG.out.later HB.out
      have H3 := HH.out.later HB.out
      replace b8 := Lib.hid b8
      clear hlt hk eb
      go_wp2_with (fail)
      go_at_call 13
      refine (works_any _ G3 H3).mono ?_
      rintro e w4 ⟨rfl, hb⟩
      have B4 := Below.go HB.out hb
      clear hb G3 H3
      go_wp2_with (fail)
      go_ret
      exact ⟨rfl, B4⟩
end Go.Proofs.YtajejlaoompieaaDoor
