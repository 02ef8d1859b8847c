/- Numbers of 256 bits, their limbs; poly.step, poly.plus. -/
import Derived.Test.YtbofihejegbfhaaCR
import Derived.Laws.MathBits
import Derived.Laws.Externs
import Derived.LoopN
import Derived.LoopTactic
import Derived.StillTailTactics
import Derived.Lib.Mul64
namespace Go.Proofs.Ytbofihejegbfhaa
set_option linter.unusedVariables false
set_option maxRecDepth 2000
set_option linter.unusedSimpArgs false
open Go.RowKit
def l64 (x : Int) : Int := x % 18446744073709551616
def h64 (x : Int) : Int := x / 18446744073709551616
def inU (x : Int) : Prop := 0 ≤ x ∧ x < 18446744073709551616
theorem in_l64 (x : Int) : inU (l64 x) := by unfold inU l64; omega
/-- bits.Add64 -/
theorem padd (x y c : Int) (hx : inU x) (hy : inU y) (c0 : 0 ≤ c) (c1 : c ≤ 1) (w : World) :
    (callFunc 33 #[.int .u64 x, .int .u64 y, .int .u64 c]).run Try.prog w = .ok (.value (.tuple #[.int .u64 (l64 (x + y + c)), .int .u64 (h64 (x + y + c))])) w := by
  rw [run_callFunc_extern Try.func33 (by kernel_rfl) (by kernel_rfl) (by kernel_rfl) (e := add64Entry) (by kernel_rfl), run_add64 x y c hx.1 hy.1 (by omega) (by omega)]
  rfl
theorem pret_tup {k k' : IntKind} {a b c d : Int} (h : a = b) (h' : c = d) : Ending.returned (.tuple #[.int k a, .int k' c]) = .returned (.tuple #[.int k b, .int k' d]) := by rw [h, h']
theorem pmul64_walk (x y : Int) (hx0 : 0 ≤ x) (hx : x < 18446744073709551616) (hy0 : 0 ≤ y) (hy : y < 18446744073709551616) :
  IntKind.u64.wrap (IntKind.u64.wrap (IntKind.u64.wrap (x / 4294967296 * (y / 4294967296)) + IntKind.u64.wrap (IntKind.u64.wrap (x / 4294967296 * bits BinOp.and IntKind.u64 y 4294967295) + IntKind.u64.wrap (bits BinOp.and IntKind.u64 x 4294967295 * bits BinOp.and IntKind.u64 y 4294967295) / 4294967296) / 4294967296) +
    IntKind.u64.wrap (bits BinOp.and IntKind.u64 (IntKind.u64.wrap (IntKind.u64.wrap (x / 4294967296 * bits BinOp.and IntKind.u64 y 4294967295) + IntKind.u64.wrap (bits BinOp.and IntKind.u64 x 4294967295 * bits BinOp.and IntKind.u64 y 4294967295) / 4294967296)) 4294967295 + IntKind.u64.wrap (bits BinOp.and IntKind.u64 x 4294967295 * (y / 4294967296))) / 4294967296) = h64 (x * y) := by
  rw [and_low32 x hx0 hx, and_low32 y hy0 hy, and_low32 (IntKind.u64.wrap _) (by rw [IntKind.wrap_u64]; omega) (by rw [IntKind.wrap_u64]; omega)]
  simp only [IntKind.wrap_u64]
  exact mul64_arith x y hx0 hx hy0 hy
set_option maxHeartbeats 1000000 in
theorem PMul64_any (x y : Int) (hx : inU x) (hy : inU y) (w : World) :
    Calls Try.prog 34 #[.int .u64 x, .int .u64 y] w fun e w' => e = .returned (.tuple #[.int .u64 (h64 (x * y)), .int .u64 (l64 (x * y))]) ∧ w = w' := by
  have hx0 := hx.1; have hx1 := hx.2; have hy0 := hy.1; have hy1 := hy.2
  go_enter Try.func34, Try.ntmps34
  go_wp2
  go_ret2
  exact ⟨pret_tup (pmul64_walk x y hx0 hx1 hy0 hy1) (IntKind.wrap_u64 _), rfl⟩
/-- at + a b + c is less than 2^128 -/
theorem step_arith (t a b c : Int) (ht : inU t) (ha : inU a) (hb : inU b) (hc : inU c) :
    0 ≤ h64 (l64 (a * b) + t + 0) ∧ h64 (l64 (a * b) + t + 0) ≤ 1 ∧ 0 ≤ h64 (l64 (l64 (a * b) + t + 0) + c + 0) ∧ h64 (l64 (l64 (a * b) + t + 0) + c + 0) ≤ 1 ∧
    l64 (l64 (l64 (a * b) + t + 0) + c + 0) = l64 (t + a * b + c) ∧
    h64 (a * b) + h64 (l64 (a * b) + t + 0) + h64 (l64 (l64 (a * b) + t + 0) + c + 0) = h64 (t + a * b + c) ∧
    inU (h64 (a * b) + h64 (l64 (a * b) + t + 0)) ∧ inU (h64 (t + a * b + c)) ∧ inU (h64 (a * b)) := by
  have p0 := Int.mul_nonneg ha.1 hb.1
  have p1 : a * b ≤ 18446744073709551615 * 18446744073709551615 := Int.mul_le_mul (by have := ha.2; omega) (by have := hb.2; omega) hb.1 (by decide)
  generalize a * b = p at *
  unfold inU l64 h64 at *
  refine ⟨?_, ?_, ?_, ?_, ?_, ?_, ?_, ?_, ?_⟩ <;> omega
theorem PMul_calls {x y h l : Int} (eh : h64 (x * y) = h) (el : l64 (x * y) = l) (hx : inU x) (hy : inU y) : ∀ w, Calls Try.prog 34 #[.int .u64 x, .int .u64 y] w fun e w' => e = .returned (.tuple #[.int .u64 h, .int .u64 l]) ∧ w = w' := by
  subst eh; subst el; exact PMul64_any x y hx hy
set_option maxHeartbeats 2000000 in
theorem step_core (t a b c H L l1 c1 l2 c2 h1 h2 : Int) (w : World) (e1 : IntKind.u64.wrap (H + c1) = h1) (e2 : IntKind.u64.wrap (h1 + c2) = h2)
    (mx : Hid (∀ w, Calls Try.prog 34 #[.int .u64 a, .int .u64 b] w fun e w' => e = .returned (.tuple #[.int .u64 H, .int .u64 L]) ∧ w = w'))
    (A1 : ∀ w, (callFunc 33 #[.int .u64 L, .int .u64 t, .int .u64 0]).run Try.prog w = .ok (.value (.tuple #[.int .u64 l1, .int .u64 c1])) w)
    (A2 : ∀ w, (callFunc 33 #[.int .u64 l1, .int .u64 c, .int .u64 0]).run Try.prog w = .ok (.value (.tuple #[.int .u64 l2, .int .u64 c2])) w) :
    Calls Try.prog 32 #[.int .u64 t, .int .u64 a, .int .u64 b, .int .u64 c] w fun e w' => e = .returned (.tuple #[.int .u64 l2, .int .u64 h2]) ∧ w = w' := by
  go_enter Try.func32, Try.ntmps32
  go_wp2_with (fail); go_at_call 34; refine (mx.out _).mono ?_; rintro e w1 ⟨rfl, rfl⟩
  go_wp2
  exact bodyPost_ret (v := .tuple #[.int .u64 l2, .int .u64 h2]) (by simp [results, Try.results32, go_sem]) rfl ⟨rfl, rfl⟩
theorem step_any (t a b c : Int) (ht : inU t) (ha : inU a) (hb : inU b) (hc : inU c) (w : World) :
    Calls Try.prog 32 #[.int .u64 t, .int .u64 a, .int .u64 b, .int .u64 c] w fun e w' => e = .returned (.tuple #[.int .u64 (l64 (t + a * b + c)), .int .u64 (h64 (t + a * b + c))]) ∧ w = w' := by
  obtain ⟨p1, p2, p3, p4, e1, e2, i1, i2, i3⟩ := step_arith t a b c ht ha hb hc
  have A1 := padd (l64 (a * b)) t 0 (in_l64 _) ht (by decide) (by decide)
  have A2 := padd (l64 (l64 (a * b) + t + 0)) c 0 (in_l64 _) hc (by decide) (by decide)
  rw [e1] at A2
  refine step_core t a b c _ _ _ _ _ _ (h64 (a * b) + h64 (l64 (a * b) + t + 0)) _ w ?_ ?_ (Lib.hid (PMul64_any a b ha hb)) A1 A2
  · rw [IntKind.wrap_u64]; unfold inU at i1; omega
  · rw [IntKind.wrap_u64, e2]; unfold inU at i2; omega
end Go.Proofs.Ytbofihejegbfhaa
