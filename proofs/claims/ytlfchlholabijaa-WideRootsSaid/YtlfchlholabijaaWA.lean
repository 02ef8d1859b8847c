/- The small functions of package wide: what each call gives. -/
import Derived.Test.YtlfchlholabijaaRows
import Derived.Test.YtlfchlholabijaaWMath
import Derived.WalkKit
import Derived.WalkSpells
import Derived.WalkLawsBesides
import Derived.Lib.Hide
import Derived.Lib.Mul64
import Derived.Deep.QuietTactic
import Derived.BigQuiet
namespace Go.Proofs.Ytlfchlholabijaa
set_option linter.unusedVariables false
set_option maxRecDepth 2000
open Go.RowKit

theorem add64 (x y : Int) (hx : 0 ≤ x) (hy : 0 ≤ y) (w : World) :
    (callFunc 39 #[.int .u64 x, .int .u64 y, .int .u64 0]).run Try.prog w = .ok (.value (.tuple #[.int .u64 (lo (x + y)), .int .u64 (hi (x + y))])) w := by
  rw [run_callFunc_extern Try.func39 (by kernel_rfl) (by kernel_rfl) (by kernel_rfl) (e := add64Entry) (by kernel_rfl), run_add64 x y 0 hx hy (by omega) (by omega)]
  simp only [Int.add_zero]; rfl

theorem sub64 (x y : Int) (hx : 0 ≤ x) (hy : 0 ≤ y) (hy1 : y < 18446744073709551616) (w : World) :
    (callFunc 38 #[.int .u64 x, .int .u64 y, .int .u64 0]).run Try.prog w = .ok (.value (.tuple #[.int .u64 (lo (x - y)), .int .u64 (if x < y then 1 else 0)])) w := by
  rw [run_callFunc_extern Try.func38 (by kernel_rfl) (by kernel_rfl) (by kernel_rfl) (e := sub64Entry) (by kernel_rfl), run_sub64 x y hx hy hy1]
  rfl


theorem ret_int {k : IntKind} {a b : Int} (h : a = b) : Ending.returned (.int k a) = .returned (.int k b) := by rw [h]

theorem Of_any (n : Int) (h0 : -9223372036854775808 ≤ n) (h1 : n ≤ 9223372036854775807) (w : World) :
    Calls Try.prog 25 #[.int .i64 n] w fun e w' => e = .returned ((.agg #[.int .i64 (hi (n)), .int .u64 (lo (n))])) ∧ Below w.heap.size w w' := by
  have e1 : n / 9223372036854775808 = hi n := by unfold hi; omega
  have E1 := Lib.hid e1; clear e1
  go_enter Try.func25, Try.ntmps25
  go_wp2
  refine bodyPost_ret (v := .agg #[.int .i64 (n / 9223372036854775808), .int .u64 (IntKind.u64.wrap n)]) (by simp [results, Try.results25, go_sem]) rfl ⟨?_, (by repeat (first | exact Below.refl _ _ | assumption | refine below_drewN ?_ _ | refine Below.drew ?_ | refine Below.alloc ?_ (by first | omega | (simp; done) | (simp; omega)) _ | refine Below.setCell ?_ (by first | (simp; done) | (simp; omega)) _))⟩
  rw [E1.out, wrap_of_bool]

theorem flip_core (h l b : Int) (w : World) (hb0 : 0 ≤ b) (hb1 : b ≤ 1)
    (hs : ∀ w, (callFunc 38 #[.int .u64 0, .int .u64 l, .int .u64 0]).run Try.prog w = .ok (.value (.tuple #[.int .u64 (lo (-l)), .int .u64 b])) w) :
    Calls Try.prog 35 #[.agg #[.int .i64 h, .int .u64 l]] w fun e w' => e = .returned (.agg #[.int .i64 (wrap64 (wrap64 (-h) - b)), .int .u64 (lo (-l))]) ∧ Below w.heap.size w w' := by
  go_enter Try.func35, Try.ntmps35
  go_wp2
  exact bodyPost_ret (v := .agg #[.int .i64 (wrap64 (wrap64 (-h) - b)), .int .u64 (lo (-l))]) (by simp [results, Try.results35, go_sem]) rfl ⟨rfl, (by repeat (first | exact Below.refl _ _ | assumption | refine below_drewN ?_ _ | refine Below.drew ?_ | refine Below.alloc ?_ (by first | omega | (simp; done) | (simp; omega)) _ | refine Below.setCell ?_ (by first | (simp; done) | (simp; omega)) _))⟩

theorem flip_any (z : Int) (w : World) :
    Calls Try.prog 35 #[(.agg #[.int .i64 (hi (z)), .int .u64 (lo (z))])] w fun e w' => e = .returned (.agg #[.int .i64 (wrap64 (hi (-z))), .int .u64 (lo (-z))]) ∧ Below w.heap.size w w' := by
  have hl := lo_bd z
  have h := flip_core (hi z) (lo z) (if 0 < lo z then 1 else 0) w (by split <;> omega) (by split <;> omega)
    (fun w => by have := sub64 0 (lo z) (by omega) hl.1 hl.2 w; rwa [Int.zero_sub] at this)
  rw [flip_hi, (flip_hi_of z).1.symm, (flip_hi_of z).2.symm] at h
  exact h

theorem plus_core (ha la hb lb c l : Int) (t : Bool) (w : World) (c0 : 0 ≤ c) (c1 : c ≤ 1)
    (hs : ∀ w, (callFunc 39 #[.int .u64 la, .int .u64 lb, .int .u64 0]).run Try.prog w = .ok (.value (.tuple #[.int .u64 l, .int .u64 c])) w)
    (ht : decide (bits .and .i64 (bits .xor .i64 ha (wrap64 (wrap64 (ha + hb) + c))) (bits .xor .i64 hb (wrap64 (wrap64 (ha + hb) + c))) < 0) = t) :
    Calls Try.prog 36 #[.agg #[.int .i64 ha, .int .u64 la], .agg #[.int .i64 hb, .int .u64 lb]] w fun e w' =>
      e = .returned (.tuple #[if t then .agg #[.int .i64 0, .int .u64 0] else .agg #[.int .i64 (wrap64 (wrap64 (ha + hb) + c)), .int .u64 l], .bool (!t)]) ∧ Below w.heap.size w w' := by
  cases t
  · have ht' := of_decide_eq_false ht
    clear ht
    go_enter Try.func36, Try.ntmps36
    go_wp2
    exact bodyPost_ret (v := .tuple #[.agg #[.int .i64 (wrap64 (wrap64 (ha + hb) + c)), .int .u64 l], .bool true]) (by simp [results, Try.results36, go_sem]) rfl ⟨rfl, (by repeat (first | exact Below.refl _ _ | assumption | refine below_drewN ?_ _ | refine Below.drew ?_ | refine Below.alloc ?_ (by first | omega | (simp; done) | (simp; omega)) _ | refine Below.setCell ?_ (by first | (simp; done) | (simp; omega)) _))⟩
  · have ht' := of_decide_eq_true ht
    clear ht
    go_enter Try.func36, Try.ntmps36
    go_wp2
    exact bodyPost_ret (v := .tuple #[.agg #[.int .i64 0, .int .u64 0], .bool false]) (by simp [results, Try.results36, go_sem]) rfl ⟨rfl, (by repeat (first | exact Below.refl _ _ | assumption | refine below_drewN ?_ _ | refine Below.drew ?_ | refine Below.alloc ?_ (by first | omega | (simp; done) | (simp; omega)) _ | refine Below.setCell ?_ (by first | (simp; done) | (simp; omega)) _))⟩

/-- plus: the sum, or 0 and false where it leaves the range -/
theorem plus_any (a b : Int) (a0 : -170141183460469231731687303715884105728 ≤ a) (a1 : a < 170141183460469231731687303715884105728)
    (b0 : -170141183460469231731687303715884105728 ≤ b) (b1 : b < 170141183460469231731687303715884105728) (w : World) :
    Calls Try.prog 36 #[(.agg #[.int .i64 (hi (a)), .int .u64 (lo (a))]), (.agg #[.int .i64 (hi (b)), .int .u64 (lo (b))])] w fun e w' =>
      e = .returned (.tuple #[if !decide (-170141183460469231731687303715884105728 ≤ a + b ∧ a + b < 170141183460469231731687303715884105728) then .agg #[.int .i64 0, .int .u64 0] else .agg #[.int .i64 (wrap64 (hi (a + b))), .int .u64 (lo (a + b))],
        .bool (!!decide (-170141183460469231731687303715884105728 ≤ a + b ∧ a + b < 170141183460469231731687303715884105728))]) ∧ Below w.heap.size w w' := by
  have la := lo_bd a
  have lb := lo_bd b
  have cb := carry_bd a b
  have h := plus_core (hi a) (lo a) (hi b) (lo b) (hi (lo a + lo b)) (lo (lo a + lo b)) _ w cb.1 cb.2 (add64 (lo a) (lo b) la.1 lb.1) rfl
  rw [plus_hi, ← (plus_hi_of a b).1, ← (plus_hi_of a b).2, plus_over a b a0 a1 b0 b1] at h
  exact h

theorem plus_yes (a b : Int) (a0 : -170141183460469231731687303715884105728 ≤ a) (a1 : a < 170141183460469231731687303715884105728)
    (b0 : -170141183460469231731687303715884105728 ≤ b) (b1 : b < 170141183460469231731687303715884105728)
    (c0 : -170141183460469231731687303715884105728 ≤ a + b) (c1 : a + b < 170141183460469231731687303715884105728) (w : World) :
    Calls Try.prog 36 #[(.agg #[.int .i64 (hi (a)), .int .u64 (lo (a))]), (.agg #[.int .i64 (hi (b)), .int .u64 (lo (b))])] w fun e w' =>
      e = .returned (.tuple #[(.agg #[.int .i64 (hi (a + b)), .int .u64 (lo (a + b))]), .bool true]) ∧ Below w.heap.size w w' := by
  have h := plus_any a b a0 a1 b0 b1 w
  rw [decide_eq_true ⟨c0, c1⟩, wrap_hi _ c0 c1] at h
  exact h
theorem plus_no (a b : Int) (a0 : -170141183460469231731687303715884105728 ≤ a) (a1 : a < 170141183460469231731687303715884105728)
    (b0 : -170141183460469231731687303715884105728 ≤ b) (b1 : b < 170141183460469231731687303715884105728)
    (c : ¬ (-170141183460469231731687303715884105728 ≤ a + b ∧ a + b < 170141183460469231731687303715884105728)) (w : World) :
    Calls Try.prog 36 #[(.agg #[.int .i64 (hi (a)), .int .u64 (lo (a))]), (.agg #[.int .i64 (hi (b)), .int .u64 (lo (b))])] w fun e w' =>
      e = .returned (.tuple #[.agg #[.int .i64 0, .int .u64 0], .bool false]) ∧ Below w.heap.size w w' := by
  have h := plus_any a b a0 a1 b0 b1 w
  rw [decide_eq_false c] at h
  exact h

theorem mag_any (n : Int) (h0 : -9223372036854775808 ≤ n) (h1 : n ≤ 9223372036854775807) (w : World) :
    Calls Try.prog 32 #[.int .i64 n] w fun e w' => e = .returned (.int .u64 (n.natAbs : Int)) ∧ w = w' := by
  go_enter Try.func32, Try.ntmps32
  go_wp2
  all_goals go_ret
  · exact ⟨ret_int (by rw [IntKind.wrap_u64, IntKind.wrap_u64]; omega), rfl⟩
  · exact ⟨ret_int (by omega), rfl⟩

/-- signed: what is left (below 2^63, or 0 with a d of -2^63's size) with d's sign -/
theorem signed_any (n d : Int) (h0 : 0 ≤ n) (h1 : n ≤ 9223372036854775807) (w : World) :
    Calls Try.prog 34 #[.int .u64 n, .int .i64 d] w fun e w' => e = .returned (.int .i64 (if d < 0 then -n else n)) ∧ w = w' := by
  by_cases hd : d < 0
  · go_enter Try.func34, Try.ntmps34
    go_wp2
    go_ret
    exact ⟨rfl, rfl⟩
  · go_enter Try.func34, Try.ntmps34
    go_wp2
    go_ret
    exact ⟨rfl, rfl⟩

end Go.Proofs.Ytlfchlholabijaa
