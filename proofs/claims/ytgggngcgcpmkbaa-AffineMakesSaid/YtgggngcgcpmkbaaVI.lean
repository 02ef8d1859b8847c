/- Lengths: vec's and the document's. -/
import Derived.Test.YtgggngcgcpmkbaaVH
import Derived.Test.YtgggngcgcpmkbaaFX
import Derived.Test.YtgggngcgcpmkbaaWS
import Derived.StillTailTactics
import Derived.BigQuiet
import Derived.Deep.QuietTactic
namespace Go.Proofs.Ytgggngcgcpmkbaa
set_option linter.unusedVariables false
set_option maxRecDepth 2000
set_option linter.unusedSimpArgs false
open Go.RowKit
attribute [local go_sem] setCell_twice setCell_pair

theorem abs_sq (x : Int) : (x.natAbs : Int) * x.natAbs = x * x := by rw [← Int.natCast_mul, Int.natAbs_mul_self]
theorem sq_bd (x : Int) (h : in64 x) : 0 ≤ x * x ∧ x * x ≤ 85070591730234615865843651857942052864 := by
  have h1 : (x.natAbs : Int) ≤ 9223372036854775808 := by have := h.1; have := h.2; omega
  have h2 := abs_sq x
  have h3 := Int.mul_le_mul h1 h1 (by omega) (by omega)
  have h4 : 0 ≤ (x.natAbs : Int) * x.natAbs := Int.mul_nonneg (by omega) (by omega)
  omega

/-- the sum of three squares by wide.Add -/
theorem addR_three (a b c : Int) (a0 : 0 ≤ a) (a1 : a ≤ 85070591730234615865843651857942052864) (b0 : 0 ≤ b) (b1 : b ≤ 85070591730234615865843651857942052864) (c0 : 0 ≤ c) (c1 : c ≤ 85070591730234615865843651857942052864) :
    addR 0 [a, b, c] = if a + b + c < 170141183460469231731687303715884105728 then some (a + b + c) else none := by
  have i1 : inW (0 + a) = true := (inW_iff _).2 (by omega)
  simp only [addR]
  rw [if_pos i1, Int.zero_add]
  by_cases h2 : a + b < 170141183460469231731687303715884105728
  · rw [if_pos ((inW_iff _).2 (by omega))]
    by_cases h3 : a + b + c < 170141183460469231731687303715884105728
    · rw [if_pos ((inW_iff _).2 (by omega)), if_pos h3]
    · rw [if_neg (fun h => by have := (inW_iff _).1 h; omega), if_neg h3]
  · rw [if_neg (fun h => by have := (inW_iff _).1 h; omega), if_neg (by omega)]

theorem Add_three (a b c : Int) (a0 : 0 ≤ a) (a1 : a ≤ 85070591730234615865843651857942052864) (b0 : 0 ≤ b) (b1 : b ≤ 85070591730234615865843651857942052864) (c0 : 0 ≤ c) (c1 : c ≤ 85070591730234615865843651857942052864) (w : World) (blk : Nat)
    (h : Wides3 blk (hi a) (lo a) (hi b) (lo b) (hi c) (lo c) w) :
    Calls Try.prog 38 #[.slice (some ⟨blk, 0, none⟩) 3 3] w fun e w' => e = .returned (addV (if a + b + c < 170141183460469231731687303715884105728 then some (a + b + c) else none)) ∧ Below w.heap.size w w' :=
  Add_walk blk 0 3 3 [a, b, c] _ rfl (by omega) w h.lt (fun k hk => match k, hk with | 0, _ => (inW_iff _).2 (by show _ ≤ a ∧ a < _; omega) | 1, _ => (inW_iff _).2 (by show _ ≤ b ∧ b < _; omega) | 2, _ => (inW_iff _).2 (by show _ ≤ c ∧ c < _; omega))
    (fun k hk => match k, hk with | 0, _ => ⟨h.c0, h.c1⟩ | 1, _ => ⟨h.c2, h.c3⟩ | 2, _ => ⟨h.c4, h.c5⟩) (addR_three a b c a0 a1 b0 b1 c0 c1)

theorem root63 (S : Int) (s : Nat) (hS : 85070591730234615865843651857942052864 ≤ S) (s2 : S < ((s : Int) + 1) * (s + 1)) : 9223372036854775808 ≤ (s : Int) := by
  refine Int.not_lt.1 fun h => ?_
  have := Int.mul_le_mul (show (s : Int) + 1 ≤ 9223372036854775808 by omega) (show (s : Int) + 1 ≤ 9223372036854775808 by omega) (by omega) (by omega)
  omega
theorem root63' (S : Int) (s : Nat) (hS : S < 85070591730234615865843651857942052864) (s1 : (s : Int) * s ≤ S) : (s : Int) ≤ 9223372036854775807 := by
  refine Int.not_lt.1 fun h => ?_
  have := Int.mul_le_mul (show (9223372036854775808 : Int) ≤ s by omega) (show (9223372036854775808 : Int) ≤ s by omega) (by omega) (by omega)
  omega
theorem root64 (S : Int) (s : Nat) (hS : S < 170141183460469231731687303715884105728) (s1 : (s : Int) * s ≤ S) : (s : Int) ≤ 18446744073709551615 := by
  refine Int.not_lt.1 fun h => ?_
  have := Int.mul_le_mul (show (18446744073709551616 : Int) ≤ s by omega) (show (18446744073709551616 : Int) ≤ s by omega) (by omega) (by omega)
  omega

theorem add64c (x y c : Int) (hx : 0 ≤ x) (hy : 0 ≤ y) (c0 : 0 ≤ c) (c1 : c ≤ 1) (w : World) :
    (callFunc 104 #[.int .u64 x, .int .u64 y, .int .u64 c]).run Try.prog w = .ok (.value (.tuple #[.int .u64 (lo (x + y + c)), .int .u64 (hi (x + y + c))])) w := by
  rw [run_callFunc_extern Try.func104 (by kernel_rfl) (by kernel_rfl) (by kernel_rfl) (e := add64Entry) (by kernel_rfl), run_add64 x y c hx hy (by omega) (by omega)]
  rfl

theorem quiet_eq {P : Program} {f : FuncId} {ar : Array Value} {w : World} {n : Nat} {v : Value}
    (h : ∀ w, Calls P f ar w fun e w' => e = .returned v ∧ w = w') : Calls P f ar (w.drewN n) fun e w'' => e = .returned v ∧ ∃ m, w'' = w.drewN m :=
  Calls.quiet_of_same ((h _).mono fun _ _ h => ⟨h.1, h.2.symm⟩)

end Go.Proofs.Ytgggngcgcpmkbaa
