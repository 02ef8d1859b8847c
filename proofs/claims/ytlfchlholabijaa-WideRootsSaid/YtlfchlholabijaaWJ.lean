/- wide.Int, squareFits. -/
import Derived.Test.YtlfchlholabijaaWF
import Derived.StillTailTactics
namespace Go.Proofs.Ytlfchlholabijaa
set_option linter.unusedVariables false
set_option maxRecDepth 2000
open Go.RowKit
attribute [local go_sem] setCell_twice setCell_pair

theorem eqW (a b c d : Int) (w : World) : (binOp .eql 24 (.agg #[.int .i64 a, .int .u64 b]) (.agg #[.int .i64 c, .int .u64 d])).run Try.prog w = .ok (.bool (eqB a b c d)) w := by
  unfold eqB
  by_cases h : a = c
  · subst h; by_cases h2 : b = d
    · subst h2; simp [go_sem]
    · simp [go_sem, h2]
  · have hb : (a == c) = false := by simpa using h
    simp [go_sem, hb]
theorem neqW (a b c d : Int) (w : World) : (binOp .neq 24 (.agg #[.int .i64 a, .int .u64 b]) (.agg #[.int .i64 c, .int .u64 d])).run Try.prog w = .ok (.bool (!eqB a b c d)) w := by
  unfold eqB
  by_cases h : a = c
  · subst h; by_cases h2 : b = d
    · subst h2; simp [go_sem]
    · simp [go_sem, h2]
  · have hb : (a == c) = false := by simpa using h
    simp [go_sem, hb]

theorem ret_bool {a b : Bool} (h : a = b) : Ending.returned (.bool a) = .returned (.bool b) := by rw [h]

attribute [local go_sem ↓] eqW neqW

theorem squareFits_core (n H L h l : Int) (t : Bool) (w : World) (h0 : 0 ≤ h) (h1 : h ≤ 9223372036854775807)
    (ml : Hid (∀ w, Calls Try.prog 21 #[.int .u64 n, .int .u64 n] w fun e w' => e = .returned (.tuple #[.int .u64 H, .int .u64 L]) ∧ w = w'))
    (ht : t = (decide (H < h) || (H == h && decide (L ≤ l)))) :
    Calls Try.prog 28 #[.int .u64 n, .agg #[.int .i64 h, .int .u64 l]] w fun e w' => e = .returned (.bool t) ∧ Below w.heap.size w w' := by
  subst ht
  go_enter Try.func28, Try.ntmps28
  go_wp2_with (go_at_call 21; refine (ml.out _).mono ?_; rintro e w1 ⟨rfl, rfl⟩)
  all_goals go_ret
  · rename_i hx hy; exact ⟨ret_bool (by subst hy; simp), (by repeat (first | exact Below.refl _ _ | assumption | refine below_drewN ?_ _ | refine Below.drew ?_ | refine Below.alloc ?_ (by first | omega | (simp; done) | (simp; omega)) _ | refine Below.setCell ?_ (by first | (simp; done) | (simp; omega)) _))⟩
  · rename_i hx hy; exact ⟨ret_bool (by simp [hy]), (by repeat (first | exact Below.refl _ _ | assumption | refine below_drewN ?_ _ | refine Below.drew ?_ | refine Below.alloc ?_ (by first | omega | (simp; done) | (simp; omega)) _ | refine Below.setCell ?_ (by first | (simp; done) | (simp; omega)) _))⟩
  · exact ⟨rfl, (by repeat (first | exact Below.refl _ _ | assumption | refine below_drewN ?_ _ | refine Below.drew ?_ | refine Below.alloc ?_ (by first | omega | (simp; done) | (simp; omega)) _ | refine Below.setCell ?_ (by first | (simp; done) | (simp; omega)) _))⟩

theorem Int_core (h l n nh nl : Int) (t : Bool) (w : World) (hn : wrap64 l = n) (ht : eqB nh nl h l = t)
    (f : Hid (∀ w, Calls Try.prog 25 #[.int .i64 n] w fun e w' => e = .returned (.agg #[.int .i64 nh, .int .u64 nl]) ∧ Below w.heap.size w w')) :
    Calls Try.prog 23 #[.agg #[.int .i64 h, .int .u64 l]] w fun e w' => e = .returned (.tuple #[.int .i64 (if t then n else 0), .bool t]) ∧ Below w.heap.size w w' := by
  cases t
  all_goals
    go_enter Try.func23, Try.ntmps23
    go_wp2
    go_region_with (go_at_call 25; refine (f.out _).mono ?_; rintro e w1 ⟨rfl, hb⟩; have hz : w.heap.size < w1.heap.size := (by have := hb.size; (try simp at this); omega); have c00 := hb.cell (p := ⟨w.heap.size, 0, none⟩) (by first | omega | (simp; done) | (simp; omega)); have f00 := hb.frozen (p := ⟨w.heap.size, 0, none⟩) (by first | omega | (simp; done) | (simp; omega)); have c01 := hb.cell (p := ⟨w.heap.size, 1, none⟩) (by first | omega | (simp; done) | (simp; omega)); have f01 := hb.frozen (p := ⟨w.heap.size, 1, none⟩) (by first | omega | (simp; done) | (simp; omega)); simp [go_sem] at c00 f00 c01 f01; have hb' : Below w.heap.size w w1 := below_step (by repeat (first | exact Below.refl _ _ | assumption | refine below_drewN ?_ _ | refine Below.drew ?_ | refine Below.alloc ?_ (by first | omega | (simp; done) | (simp; omega)) _ | refine Below.setCell ?_ (by first | (simp; done) | (simp; omega)) _)) hb)
    all_goals go_wp2
    all_goals go_ret2
    all_goals exact ⟨rfl, (by repeat (first | exact Below.refl _ _ | assumption | refine below_drewN ?_ _ | refine Below.drew ?_ | refine Below.alloc ?_ (by first | omega | (simp; done) | (simp; omega)) _ | refine Below.setCell ?_ (by first | (simp; done) | (simp; omega)) _))⟩

/-- Int: the number, or 0 and false where it is no int64 -/
theorem Int_any (z : Int) (w : World) :
    Calls Try.prog 23 #[(.agg #[.int .i64 (hi (z)), .int .u64 (lo (z))])] w fun e w' => e = .returned (.tuple #[.int .i64 (if decide (-9223372036854775808 ≤ z ∧ z ≤ 9223372036854775807) then z else 0), .bool (decide (-9223372036854775808 ≤ z ∧ z ≤ 9223372036854775807))]) ∧ Below w.heap.size w w' := by
  have b : -9223372036854775808 ≤ wrap64 (lo z) ∧ wrap64 (lo z) ≤ 9223372036854775807 := by unfold wrap64; omega
  have h := Int_core (hi z) (lo z) (wrap64 (lo z)) _ _ _ w rfl rfl (fun w => Of_any (wrap64 (lo z)) b.1 b.2 w)
  rw [eqB_wide] at h
  by_cases hz : -9223372036854775808 ≤ z ∧ z ≤ 9223372036854775807
  · have e : wrap64 (lo z) = z := by unfold wrap64 lo; omega
    rw [e, decide_eq_true rfl] at h
    rw [decide_eq_true hz]
    exact h
  · have e : ¬ wrap64 (lo z) = z := by unfold wrap64 lo; omega
    rw [decide_eq_false e] at h
    rw [decide_eq_false hz]
    exact h

/-- squareFits: whether n n is at most z, not below 0 -/
theorem squareFits_any (n z : Int) (n0 : 0 ≤ n) (n1 : n < 18446744073709551616) (z0 : 0 ≤ z) (z1 : z < 170141183460469231731687303715884105728) (w : World) :
    Calls Try.prog 28 #[.int .u64 n, (.agg #[.int .i64 (hi (z)), .int .u64 (lo (z))])] w fun e w' => e = .returned (.bool (decide (n * n ≤ z))) ∧ Below w.heap.size w w' := by
  have b := hi_bd z (by omega) z1
  refine squareFits_core n _ _ (hi z) (lo z) _ w (by unfold hi; omega) b.2 (fun w => Mul64_any n n n0 n1 n0 n1 w) ?_
  generalize n * n = m
  rw [Bool.eq_iff_iff]
  simp only [decide_eq_true_eq, Bool.or_eq_true, Bool.and_eq_true, beq_iff_eq]
  unfold hi lo
  omega
end Go.Proofs.Ytlfchlholabijaa
