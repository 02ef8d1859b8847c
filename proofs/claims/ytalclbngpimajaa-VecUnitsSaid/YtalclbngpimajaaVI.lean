/- Lengths: vec's and the document's. -/
import Derived.Test.YtalclbngpimajaaVH
import Derived.Test.YtalclbngpimajaaFX
import Derived.Test.YtalclbngpimajaaWS
import Derived.StillTailTactics
import Derived.BigQuiet
import Derived.Deep.QuietTactic
namespace Go.Proofs.Ytalclbngpimajaa
set_option linter.unusedVariables false
set_option maxRecDepth 2000
set_option linter.unusedSimpArgs false
open Go.RowKit
attribute [local go_sem] setCell_twice setCell_pair

theorem abs_sq (x : Int) : (x.natAbs : Int) * x.natAbs = x * x := by rw [← Int.natCast_mul, Int.natAbs_mul_self]
theorem sq_bd (x : Int) (h : in64 x) : 0 ≤ x * x ∧ x * x ≤ 85070591730234615865843651857942052864 := by
  have h1 : (x.natAbs : Int) ≤ 9223372036854775808 := by have := h.1; have := h.2; omega
  have h2 := abs_sq x
  have h3 := Int.mul_le_mul h1 h1 (by omega) (by omega)
  have h4 : 0 ≤ (x.natAbs : Int) * x.natAbs := Int.mul_nonneg (by omega) (by omega)
  omega

/-- the sum of three squares by wide.Add -/
theorem addR_three (a b c : Int) (a0 : 0 ≤ a) (a1 : a ≤ 85070591730234615865843651857942052864) (b0 : 0 ≤ b) (b1 : b ≤ 85070591730234615865843651857942052864) (c0 : 0 ≤ c) (c1 : c ≤ 85070591730234615865843651857942052864) :
    addR 0 [a, b, c] = if a + b + c < 170141183460469231731687303715884105728 then some (a + b + c) else none := by
  have i1 : inW (0 + a) = true := (inW_iff _).2 (by omega)
  simp only [addR]
  rw [if_pos i1, Int.zero_add]
  by_cases h2 : a + b < 170141183460469231731687303715884105728
  · rw [if_pos ((inW_iff _).2 (by omega))]
    by_cases h3 : a + b + c < 170141183460469231731687303715884105728
    · rw [if_pos ((inW_iff _).2 (by omega)), if_pos h3]
    · rw [if_neg (fun h => by have := (inW_iff _).1 h; omega), if_neg h3]
  · rw [if_neg (fun h => by have := (inW_iff _).1 h; omega), if_neg (by omega)]

theorem Add_three (a b c : Int) (a0 : 0 ≤ a) (a1 : a ≤ 85070591730234615865843651857942052864) (b0 : 0 ≤ b) (b1 : b ≤ 85070591730234615865843651857942052864) (c0 : 0 ≤ c) (c1 : c ≤ 85070591730234615865843651857942052864) (w : World) (blk : Nat)
    (h : Wides3 blk (hi a) (lo a) (hi b) (lo b) (hi c) (lo c) w) :
    Calls Try.prog 40 #[.slice (some ⟨blk, 0, none⟩) 3 3] w fun e w' => e = .returned (addV (if a + b + c < 170141183460469231731687303715884105728 then some (a + b + c) else none)) ∧ Below w.heap.size w w' :=
  Add_walk blk 0 3 3 [a, b, c] _ rfl (by omega) w h.lt (fun k hk => match k, hk with | 0, _ => (inW_iff _).2 (by show _ ≤ a ∧ a < _; omega) | 1, _ => (inW_iff _).2 (by show _ ≤ b ∧ b < _; omega) | 2, _ => (inW_iff _).2 (by show _ ≤ c ∧ c < _; omega))
    (fun k hk => match k, hk with | 0, _ => ⟨h.c0, h.c1⟩ | 1, _ => ⟨h.c2, h.c3⟩ | 2, _ => ⟨h.c4, h.c5⟩) (addR_three a b c a0 a1 b0 b1 c0 c1)

theorem root63 (S : Int) (s : Nat) (hS : 85070591730234615865843651857942052864 ≤ S) (s2 : S < ((s : Int) + 1) * (s + 1)) : 9223372036854775808 ≤ (s : Int) := by
  refine Int.not_lt.1 fun h => ?_
  have := Int.mul_le_mul (show (s : Int) + 1 ≤ 9223372036854775808 by omega) (show (s : Int) + 1 ≤ 9223372036854775808 by omega) (by omega) (by omega)
  omega
theorem root63' (S : Int) (s : Nat) (hS : S < 85070591730234615865843651857942052864) (s1 : (s : Int) * s ≤ S) : (s : Int) ≤ 9223372036854775807 := by
  refine Int.not_lt.1 fun h => ?_
  have := Int.mul_le_mul (show (9223372036854775808 : Int) ≤ s by omega) (show (9223372036854775808 : Int) ≤ s by omega) (by omega) (by omega)
  omega
theorem root64 (S : Int) (s : Nat) (hS : S < 170141183460469231731687303715884105728) (s1 : (s : Int) * s ≤ S) : (s : Int) ≤ 18446744073709551615 := by
  refine Int.not_lt.1 fun h => ?_
  have := Int.mul_le_mul (show (18446744073709551616 : Int) ≤ s by omega) (show (18446744073709551616 : Int) ≤ s by omega) (by omega) (by omega)
  omega

/-- vec.Length: the root of the sum of squares, saturated -/
theorem VLength_any (x y z : Int) (s : Nat) (hx : in64 x) (hy : in64 y) (hz : in64 z) (s1 : (s : Int) * s ≤ x * x + y * y + z * z) (s2 : x * x + y * y + z * z < ((s : Int) + 1) * (s + 1)) (w : World) :
    Calls Try.prog 34 #[(.agg #[.int .i64 x, .int .i64 y, .int .i64 z])] w fun e w' => e = .returned (.int .i64 (min (s : Int) 9223372036854775807)) ∧ Below w.heap.size w w' := by
  have bx := sq_bd x hx
  have by' := sq_bd y hy
  have bz := sq_bd z hz
  have fx := fun w => cLength_any x _ _ w (Lib.hid (fun w => Mul_any x x hx.1 hx.2 hx.1 hx.2 w))
  have fy := fun w => cLength_any y _ _ w (Lib.hid (fun w => Mul_any y y hy.1 hy.2 hy.1 hy.2 w))
  have fz := fun w => cLength_any z _ _ w (Lib.hid (fun w => Mul_any z z hz.1 hz.2 hz.1 hz.2 w))
  have ad := fun w b h => Add_three (x * x) (y * y) (z * z) bx.1 bx.2 by'.1 by'.2 bz.1 bz.2 w b h
  by_cases hS : x * x + y * y + z * z < 170141183460469231731687303715884105728
  · rw [if_pos hS] at ad
    exact VLength_yes x y z _ _ _ _ _ _ _ _ _ _ w fx fy fz ad (fun w => Sqrt_any _ s (by omega) hS s1 s2 w) (Lib.hid ⟨by omega, root64 _ s hS s1⟩) (Lib.hid rfl)
  · rw [if_neg hS] at ad
    have := root63 _ s (by omega) s2
    exact VLength_no x y z _ _ _ _ _ _ _ _ _ w fx fy fz ad (Lib.hid (by omega))

theorem add64c (x y c : Int) (hx : 0 ≤ x) (hy : 0 ≤ y) (c0 : 0 ≤ c) (c1 : c ≤ 1) (w : World) :
    (callFunc 119 #[.int .u64 x, .int .u64 y, .int .u64 c]).run Try.prog w = .ok (.value (.tuple #[.int .u64 (lo (x + y + c)), .int .u64 (hi (x + y + c))])) w := by
  rw [run_callFunc_extern Try.func119 (by kernel_rfl) (by kernel_rfl) (by kernel_rfl) (e := add64Entry) (by kernel_rfl), run_add64 x y c hx hy (by omega) (by omega)]
  rfl

theorem squares_core (x y z a b c d e f l1 c1 h1 l2 c2 h2 : Int) (w : World)
    (mx : Hid (∀ w, Calls Try.prog 107 #[.int .u64 x, .int .u64 x] w fun e w' => e = .returned (.tuple #[.int .u64 a, .int .u64 b]) ∧ w = w'))
    (my : Hid (∀ w, Calls Try.prog 107 #[.int .u64 y, .int .u64 y] w fun e w' => e = .returned (.tuple #[.int .u64 c, .int .u64 d]) ∧ w = w'))
    (mz : Hid (∀ w, Calls Try.prog 107 #[.int .u64 z, .int .u64 z] w fun e' w' => e' = .returned (.tuple #[.int .u64 e, .int .u64 f]) ∧ w = w'))
    (A1 : ∀ w, (callFunc 119 #[.int .u64 b, .int .u64 d, .int .u64 0]).run Try.prog w = .ok (.value (.tuple #[.int .u64 l1, .int .u64 c1])) w)
    (A2 : ∀ w, (callFunc 119 #[.int .u64 a, .int .u64 c, .int .u64 c1]).run Try.prog w = .ok (.value (.tuple #[.int .u64 h1, .int .u64 0])) w)
    (A3 : ∀ w, (callFunc 119 #[.int .u64 l1, .int .u64 f, .int .u64 0]).run Try.prog w = .ok (.value (.tuple #[.int .u64 l2, .int .u64 c2])) w)
    (A4 : ∀ w, (callFunc 119 #[.int .u64 h1, .int .u64 e, .int .u64 c2]).run Try.prog w = .ok (.value (.tuple #[.int .u64 h2, .int .u64 0])) w) :
    Calls Try.prog 86 #[.int .u64 x, .int .u64 y, .int .u64 z] w fun e w' => e = .returned (.tuple #[.int .u64 h2, .int .u64 l2, .bool false]) ∧ w = w' := by
  go_enter Try.func86, Try.ntmps86
  go_wp2_with (fail); go_at_call 107; refine (mx.out _).mono ?_; rintro e w1 ⟨rfl, rfl⟩
  go_wp2_with (fail); go_at_call 107; refine (my.out _).mono ?_; rintro e w1 ⟨rfl, rfl⟩
  go_wp2_with (fail); go_at_call 107; refine (mz.out _).mono ?_; rintro e w1 ⟨rfl, rfl⟩
  go_wp2
  exact bodyPost_ret (v := .tuple #[.int .u64 h2, .int .u64 l2, .bool false]) (by simp [results, Try.results86, go_sem]) rfl ⟨rfl, rfl⟩

theorem squares_any (x y z : Int) (x0 : 0 ≤ x) (x1 : x ≤ 9223372036854775808) (y0 : 0 ≤ y) (y1 : y ≤ 9223372036854775808) (z0 : 0 ≤ z) (z1 : z ≤ 9223372036854775808) (w : World) :
    Calls Try.prog 86 #[.int .u64 x, .int .u64 y, .int .u64 z] w fun e w' => e = .returned (.tuple #[.int .u64 (hi (x * x + y * y + z * z)), .int .u64 (lo (x * x + y * y + z * z)), .bool false]) ∧ w = w' := by
  have qx := Int.mul_le_mul x1 x1 x0 (by omega)
  have qy := Int.mul_le_mul y1 y1 y0 (by omega)
  have qz := Int.mul_le_mul z1 z1 z0 (by omega)
  have px := Int.mul_nonneg x0 x0
  have py := Int.mul_nonneg y0 y0
  have pz := Int.mul_nonneg z0 z0
  have mx := fun w => Mul64_any x x x0 (by omega) x0 (by omega) w
  have my := fun w => Mul64_any y y y0 (by omega) y0 (by omega) w
  have mz := fun w => Mul64_any z z z0 (by omega) z0 (by omega) w
  generalize x * x = X at *
  generalize y * y = Y at *
  generalize z * z = Z at *
  have A1 := fun w => add64c (lo X) (lo Y) 0 (by unfold lo; omega) (by unfold lo; omega) (by omega) (by omega) w
  have k1 : 0 ≤ hi (lo X + lo Y + 0) ∧ hi (lo X + lo Y + 0) ≤ 1 := by unfold hi lo; omega
  have A2 := fun w => add64c (hi X) (hi Y) (hi (lo X + lo Y + 0)) (by unfold hi; omega) (by unfold hi; omega) k1.1 k1.2 w
  have A3 := fun w => add64c (lo (lo X + lo Y + 0)) (lo Z) 0 (by unfold lo; omega) (by unfold lo; omega) (by omega) (by omega) w
  have k2 : 0 ≤ hi (lo (lo X + lo Y + 0) + lo Z + 0) ∧ hi (lo (lo X + lo Y + 0) + lo Z + 0) ≤ 1 := by unfold hi lo; omega
  have A4 := fun w => add64c (lo (hi X + hi Y + hi (lo X + lo Y + 0))) (hi Z) (hi (lo (lo X + lo Y + 0) + lo Z + 0)) (by unfold lo; omega) (by unfold hi; omega) k2.1 k2.2 w
  have e2 : hi (hi X + hi Y + hi (lo X + lo Y + 0)) = 0 := by unfold hi lo; omega
  have e4 : hi (lo (hi X + hi Y + hi (lo X + lo Y + 0)) + hi Z + hi (lo (lo X + lo Y + 0) + lo Z + 0)) = 0 := by unfold hi lo; omega
  have r1 : lo (lo (hi X + hi Y + hi (lo X + lo Y + 0)) + hi Z + hi (lo (lo X + lo Y + 0) + lo Z + 0)) = hi (X + Y + Z) := by unfold hi lo; omega
  have r2 : lo (lo (lo X + lo Y + 0) + lo Z + 0) = lo (X + Y + Z) := by unfold lo; omega
  rw [e2] at A2
  rw [e4] at A4
  rw [r2] at A3
  rw [r1] at A4
  exact squares_core x y z _ _ _ _ _ _ _ _ _ _ _ _ w mx my mz A1 A2 A3 A4

theorem quiet_eq {P : Program} {f : FuncId} {ar : Array Value} {w : World} {n : Nat} {v : Value}
    (h : ∀ w, Calls P f ar w fun e w' => e = .returned v ∧ w = w') : Calls P f ar (w.drewN n) fun e w'' => e = .returned v ∧ ∃ m, w'' = w.drewN m :=
  Calls.quiet_of_same ((h _).mono fun _ _ h => ⟨h.1, h.2.symm⟩)

set_option maxHeartbeats 1000000 in
theorem RVLength_core (x y z X Y Z h l s r : Int) (w : World) (hb : Hid (h < 4611686018427387904 ∧ s = r ∧ 0 ≤ s ∧ s ≤ 9223372036854775807 ∨ 4611686018427387904 ≤ h ∧ r = 9223372036854775807))
    (sx : Hid (∀ w, Calls Try.prog 87 #[.int .i64 x] w fun e w' => e = .returned (.int .u64 X) ∧ w = w'))
    (sy : Hid (∀ w, Calls Try.prog 87 #[.int .i64 y] w fun e w' => e = .returned (.int .u64 Y) ∧ w = w'))
    (sz : Hid (∀ w, Calls Try.prog 87 #[.int .i64 z] w fun e w' => e = .returned (.int .u64 Z) ∧ w = w'))
    (sq : Hid (∀ w, Calls Try.prog 86 #[.int .u64 X, .int .u64 Y, .int .u64 Z] w fun e w' => e = .returned (.tuple #[.int .u64 h, .int .u64 l, .bool false]) ∧ w = w'))
    (rt : Hid (h < 4611686018427387904 → ∀ w, Calls Try.prog 88 #[.int .u64 h, .int .u64 l] w fun e w' => e = .returned (.int .u64 s) ∧ w = w')) :
    Calls Try.prog 35 #[(.agg #[.int .i64 x, .int .i64 y, .int .i64 z])] w fun e w' => e = .returned (.int .i64 r) ∧ Below w.heap.size w w' := by
  rcases hb.out with ⟨h1, rfl, s0, s3⟩ | ⟨h1, rfl⟩
  · have rt' := Lib.hid (rt.out h1)
    clear rt hb
    go_enter Try.func35, Try.ntmps35
    go_wp2_with (fail)
    go_quiet (first | (go_at_call 87; with_reducible exact quiet_eq sx.out) | (go_at_call 87; with_reducible exact quiet_eq sy.out) | (go_at_call 87; with_reducible exact quiet_eq sz.out) | (go_at_call 86; with_reducible exact quiet_eq sq.out))
    go_wp2_with (fail); go_at_call 88; refine (rt'.out _).mono ?_; rintro e w1 ⟨rfl, rfl⟩
    go_wp2
    go_ret
    exact ⟨ret_int (by (try unfold wrap64); (try rw [IntKind.wrap_i64]); omega), (by repeat (first | exact Below.refl _ _ | assumption | refine below_drewN ?_ _ | refine Below.drew ?_ | refine Below.alloc ?_ (by first | omega | (simp; done) | (simp; omega)) _ | refine Below.setCell ?_ (by first | (simp; done) | (simp; omega)) _))⟩
  · clear rt hb
    go_enter Try.func35, Try.ntmps35
    go_wp2_with (fail)
    go_quiet (first | (go_at_call 87; with_reducible exact quiet_eq sx.out) | (go_at_call 87; with_reducible exact quiet_eq sy.out) | (go_at_call 87; with_reducible exact quiet_eq sz.out) | (go_at_call 86; with_reducible exact quiet_eq sq.out))
    go_wp2
    go_ret
    exact ⟨rfl, (by repeat (first | exact Below.refl _ _ | assumption | refine below_drewN ?_ _ | refine Below.drew ?_ | refine Below.alloc ?_ (by first | omega | (simp; done) | (simp; omega)) _ | refine Below.setCell ?_ (by first | (simp; done) | (simp; omega)) _))⟩

theorem RVLength_any (x y z : Int) (s : Nat) (hx : in64 x) (hy : in64 y) (hz : in64 z) (s1 : (s : Int) * s ≤ x * x + y * y + z * z) (s2 : x * x + y * y + z * z < ((s : Int) + 1) * (s + 1)) (w : World) :
    Calls Try.prog 35 #[(.agg #[.int .i64 x, .int .i64 y, .int .i64 z])] w fun e w' => e = .returned (.int .i64 (min (s : Int) 9223372036854775807)) ∧ Below w.heap.size w w' := by
  have bx := sq_bd x hx
  have by' := sq_bd y hy
  have bz := sq_bd z hz
  have ab : ∀ x : Int, (x.natAbs : Int) * x.natAbs = x * x := abs_sq
  have sq := fun w => squares_any (x.natAbs : Int) (y.natAbs : Int) (z.natAbs : Int) (by omega) (by have := hx.1; have := hx.2; omega) (by omega) (by have := hy.1; have := hy.2; omega) (by omega) (by have := hz.1; have := hz.2; omega) w
  rw [ab x, ab y, ab z] at sq
  refine RVLength_core x y z _ _ _ _ _ s _ w ?_ (fun w => size_any x hx.1 hx.2 w) (fun w => size_any y hy.1 hy.2 w) (fun w => size_any z hz.1 hz.2 w) sq (Lib.hid fun h w => RRoot_any _ s (by omega) (by unfold hi at h; omega) s1 s2 w)
  show _ ∨ _
  by_cases hh : hi (x * x + y * y + z * z) < 4611686018427387904
  · have := root63' _ s (by unfold hi at hh; omega) s1
    exact .inl ⟨hh, by omega, by omega, by omega⟩
  · have := root63 _ s (by unfold hi at hh; omega) s2
    exact .inr ⟨by omega, by omega⟩
end Go.Proofs.Ytalclbngpimajaa
