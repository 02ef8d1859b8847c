/- label: sets of bits as numbers; union, Below, bit. -/
import Derived.Test.YtmbnmbjlggbfkaaKA
import Derived.Test.YtmbnmbjlggbfkaaProg
import Derived.WalkKit
import Derived.Below
import Derived.Lib.Hide
import Derived.Laws.BitsLemmas
import Derived.LoopN
import Derived.LoopTactic
import Derived.Deep.Onto
namespace Go.Proofs.Ytmbnmbjlggbfkaa
set_option linter.unusedVariables false
set_option maxRecDepth 2000
set_option linter.unusedSimpArgs false
open Go.RowKit
/-- a number of 32 bits -/
def inU (a : Int) : Prop := 0 ≤ a ∧ a < 4294967296
def orU (a b : Int) : Int := ((a.toNat ||| b.toNat : Nat) : Int)
def tb (a : Int) (i : Nat) : Bool := a.toNat.testBit i
theorem inU_nat {a : Int} (h : inU a) : a.toNat < 2 ^ 32 := by have := h.1; have := h.2; omega
theorem in_orU {a b : Int} (ha : inU a) (hb : inU b) : inU (orU a b) := by
  have := Nat.or_lt_two_pow (inU_nat ha) (inU_nat hb)
  unfold orU inU
  omega
theorem bits_orU {a b : Int} (ha : inU a) (hb : inU b) : bits .or .u32 a b = orU a b := by
  have h := (bits_nat .u32 32 (by decide) (fun n h0 h1 => by rw [IntKind.wrap_u32]; omega) a.toNat b.toNat (inU_nat ha) (inU_nat hb)).2
  rw [Int.toNat_of_nonneg ha.1, Int.toNat_of_nonneg hb.1] at h
  exact h
theorem tb_or (a b : Int) (i : Nat) : tb (orU a b) i = (tb a i || tb b i) := by
  unfold tb orU
  rw [Int.toNat_natCast, Nat.testBit_or]
theorem tb_zero (i : Nat) : tb 0 i = false := by simp [tb]
theorem tb_ext {a b : Int} (ha : inU a) (hb : inU b) (h : ∀ i, i < 32 → tb a i = tb b i) : a = b := by
  have e : a.toNat = b.toNat := by
    apply Nat.eq_of_testBit_eq
    intro i
    by_cases hi : i < 32
    · exact h i hi
    · have hp : 2 ^ 32 ≤ 2 ^ i := Nat.pow_le_pow_right (by decide) (by omega)
      rw [Nat.testBit_lt_two_pow (Nat.lt_of_lt_of_le (inU_nat ha) hp), Nat.testBit_lt_two_pow (Nat.lt_of_lt_of_le (inU_nat hb) hp)]
  have := ha.1; have := hb.1; omega
def belowU (a b : Int) : Bool := orU a b == b
theorem below_iff {a b : Int} (ha : inU a) (hb : inU b) : belowU a b = true ↔ ∀ i, i < 32 → tb a i = true → tb b i = true := by
  unfold belowU
  rw [beq_iff_eq]
  constructor
  · intro h i _ hi
    rw [← h, tb_or, hi]
    rfl
  · intro h
    apply tb_ext (in_orU ha hb) hb
    intro i hi
    rw [tb_or]
    cases ea : tb a i with
    | false => simp
    | true => simp [h i hi ea]
theorem Union_any (a b : Int) (ha : inU a) (hb : inU b) (w : World) : Calls Try.prog 17 #[.int .u32 a, .int .u32 b] w fun e w' => e = .returned (.int .u32 (orU a b)) ∧ w' = w := by
  have R := bits_orU ha hb
  go_enter Try.func17, Try.ntmps17
  go_wp2_with (fail)
  go_ret
  exact ⟨by rw [← R]; rfl, rfl⟩
theorem Below_any (a b : Int) (ha : inU a) (hb : inU b) (w : World) : Calls Try.prog 10 #[.int .u32 a, .int .u32 b] w fun e w' => e = .returned (.bool (belowU a b)) ∧ w' = w := by
  have HU := Lib.hid (Union_any a b ha hb w)
  clear ha hb
  unfold belowU
  generalize orU a b = o at *
  go_enter Try.func10, Try.ntmps10
  go_wp2_with (fail)
  go_at_call 17
  refine HU.out.mono ?_
  rintro e w1 ⟨rfl, hw⟩
  obtain rfl : w = w1 := hw.symm
  go_wp2_with (fail)
  go_ret
  exact ⟨rfl, rfl⟩
theorem tb_eq {a : Int} (ha : inU a) (i : Nat) : tb a i = decide (a / 2 ^ i % 2 = 1) := by
  unfold tb
  rw [Nat.testBit_eq_decide_div_mod_eq]
  have h0 := ha.1
  obtain ⟨n, rfl⟩ := Int.eq_ofNat_of_zero_le h0
  rw [Int.toNat_natCast]
  apply decide_eq_decide.2
  have e : ((n : Int) / 2 ^ i % 2) = ((n / 2 ^ i % 2 : Nat) : Int) := by simp
  rw [e]
  omega
theorem Bit_any (a : Int) (i : Nat) (ha : inU a) (hi : i < 32) (w : World) : Calls Try.prog 9 #[.int .u32 a, .int .i64 i] w fun e w' => e = .returned (.bool (tb a i)) ∧ w' = w := by
  have hq : 0 ≤ a / 2 ^ i ∧ a / 2 ^ i < 2 ^ 32 := by
    have hp : (0 : Int) < 2 ^ i := Int.pow_pos (by decide)
    refine ⟨Int.ediv_nonneg ha.1 (Int.le_of_lt hp), Int.lt_of_le_of_lt (Int.ediv_le_self _ ha.1) ha.2⟩
  have R : (bits .and .u32 (a / 2 ^ i) 1 == 1) = tb a i := by
    rw [tb_eq ha, show (1 : Int) = 2 ^ 1 - 1 by rfl, bits_mask .u32 32 (by decide) (fun n h0 h1 => by rw [IntKind.wrap_u32]; omega) 1 (by decide) _ hq.1 hq.2]
    by_cases h : a / 2 ^ i % 2 = 1 <;> simp [h]
  clear hq
  go_enter Try.func9, Try.ntmps9
  go_wp2_with (fail)
  go_ret
  exact ⟨by rw [← R]; rfl, rfl⟩
end Go.Proofs.Ytmbnmbjlggbfkaa
