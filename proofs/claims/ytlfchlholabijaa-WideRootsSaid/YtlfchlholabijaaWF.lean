/- The functions of package wide: what each call gives. -/
import Derived.Test.YtlfchlholabijaaWE
import Derived.WalkSmall
import Derived.StillTailTactics
import Derived.Deep.RegionWith
namespace Go.Proofs.Ytlfchlholabijaa
set_option linter.unusedVariables false
set_option maxRecDepth 2000
open Go.RowKit

theorem Mul_core (a b H L A B X Y : Int) (w : World)
    (c : Hid (∀ w, Calls Try.prog 21 #[.int .u64 A, .int .u64 B] w fun e w' => e = .returned (.tuple #[.int .u64 H, .int .u64 L]) ∧ w = w'))
    (wa : IntKind.u64.wrap a = A) (wb : IntKind.u64.wrap b = B) (sa : bits .and .i64 (a / 9223372036854775808) b = X) (sb : bits .and .i64 (b / 9223372036854775808) a = Y) :
    Calls Try.prog 8 #[.int .i64 a, .int .i64 b] w fun e w' => e = .returned (.agg #[.int .i64 (wrap64 (wrap64 (wrap64 H - X) - Y)), .int .u64 L]) ∧ Below w.heap.size w w' := by
  go_enter Try.func8, Try.ntmps8
  go_wp2_with (go_at_call 21; refine (c.out _).mono ?_; rintro e w' ⟨rfl, rfl⟩)
  exact bodyPost_ret (v := .agg #[.int .i64 (wrap64 (wrap64 (wrap64 H - X) - Y)), .int .u64 L]) (by simp [results, Try.results8, go_sem]) rfl ⟨rfl, (by repeat (first | exact Below.refl _ _ | assumption | refine below_drewN ?_ _ | refine Below.drew ?_ | refine Below.alloc ?_ (by first | omega | (simp; done) | (simp; omega)) _ | refine Below.setCell ?_ (by first | (simp; done) | (simp; omega)) _))⟩

theorem Mul_any (a b : Int) (a0 : -9223372036854775808 ≤ a) (a1 : a ≤ 9223372036854775807) (b0 : -9223372036854775808 ≤ b) (b1 : b ≤ 9223372036854775807) (w : World) :
    Calls Try.prog 8 #[.int .i64 a, .int .i64 b] w fun e w' => e = .returned ((.agg #[.int .i64 (hi (a * b)), .int .u64 (lo (a * b))])) ∧ Below w.heap.size w w' := by
  have e := mul_hi_of a b a0 a1 b0 b1
  have h := Mul_core a b _ _ (lo a) (lo b) _ _ w (fun w => Mul64_any (lo a) (lo b) (lo_bd a).1 (lo_bd a).2 (lo_bd b).1 (lo_bd b).2 w) (wrap_of_bool a) (wrap_of_bool b)
    (and_sign a b a0 a1 b0 b1) (and_sign b a b0 b1 a0 a1)
  rw [e.1, e.2] at h
  exact h

theorem bcell {W w1 : World} (hb : Below W.heap.size W w1) : (∀ b o, b < W.heap.size → w1.cell? ⟨b, o, none⟩ = W.cell? ⟨b, o, none⟩) ∧ (∀ b o, b < W.heap.size → w1.frozen? ⟨b, o, none⟩ = W.frozen? ⟨b, o, none⟩) :=
  ⟨fun b o h => hb.cell (p := ⟨b, o, none⟩) h, fun b o h => hb.frozen (p := ⟨b, o, none⟩) h⟩

theorem setCell_twice (w : World) (b o : Nat) (v v' : Value) : (w.setCell ⟨b, o, none⟩ v).setCell ⟨b, o, none⟩ v' = w.setCell ⟨b, o, none⟩ v' := by
  simp only [World.setCell]
  congr 1
  apply Array.ext_getElem?
  intro i
  simp only [Array.getElem?_modify]
  by_cases h : b = i
  · subst h
    simp only [if_true, Option.map_map]
    congr 1
    funext x
    cases x <;> simp
  · simp [h]

/-- a pair's first cell stored anew -/
theorem setCell_pair (w : World) (b : Nat) (x0 x1 y0 : Value) :
    ((w.setCell ⟨b, 0, none⟩ x0).setCell ⟨b, 1, none⟩ x1).setCell ⟨b, 0, none⟩ y0 = (w.setCell ⟨b, 0, none⟩ y0).setCell ⟨b, 1, none⟩ x1 := by
  simp only [World.setCell]
  congr 1
  apply Array.ext_getElem?
  intro i
  simp only [Array.getElem?_modify]
  by_cases h : b = i
  · subst h
    simp only [if_true, Option.map_map]
    congr 1
    funext x
    cases x with
    | cells c e f =>
      simp only [Function.comp, Option.isSome_none, Bool.false_eq_true, if_false]
      congr 1
      apply Array.ext_getElem?
      intro j
      simp only [Array.getElem?_setIfInBounds, Array.size_setIfInBounds]
      by_cases h0 : 0 = j
      · subst h0; simp
      · simp [h0]
    | _ => simp
  · simp [h]

theorem below_step {w W w1 : World} (h : Below w.heap.size w W) (hb : Below W.heap.size W w1) : Below w.heap.size w w1 := h.trans (hb.mono h.size)

theorem divide_nonneg (size H L Q q r : Int) (w : World) (hH0 : 0 ≤ H) (hH1 : H ≤ 9223372036854775807) (hL0 : 0 ≤ L) (hL1 : L ≤ 18446744073709551615) (hs0 : 1 ≤ size) (hs1 : size ≤ 18446744073709551615)
    (hm0 : 0 ≤ H % size) (hm1 : H % size < size) (hQ : wrap64 (H / size) = Q)
    (hq : Hid ((H % size * 18446744073709551616 + L) / size = q)) (hr : Hid ((H % size * 18446744073709551616 + L) % size = r)) :
    Calls Try.prog 33 #[.agg #[.int .i64 H, .int .u64 L], .int .u64 size] w fun e w' => e = .returned (.tuple #[.agg #[.int .i64 Q, .int .u64 q], .int .u64 r]) ∧ Below w.heap.size w w' := by
  have dv := fun w => Div64_any (H % size) L size hm0 hm1 hs1 hL0 hL1 w
  rw [hq.out, hr.out] at dv
  have Dv := Lib.hid dv
  clear dv
  go_enter Try.func33, Try.ntmps33
  go_wp2
  go_quiet ((go_at_call 37; exact Calls.quiet_of (Dv.out _)))
  go_wp2
  exact bodyPost_ret (v := .tuple #[.agg #[.int .i64 Q, .int .u64 q], .int .u64 r]) (by simp [results, Try.results33, go_sem]) rfl ⟨rfl, (by repeat (first | exact Below.refl _ _ | assumption | refine below_drewN ?_ _ | refine Below.drew ?_ | refine Below.alloc ?_ (by first | omega | (simp; done) | (simp; omega)) _ | refine Below.setCell ?_ (by first | (simp; done) | (simp; omega)) _))⟩

theorem divide_neg (h l h2 size H L Q q r : Int) (w : World) (hh : h < 0) (hH0 : 0 ≤ H) (hH1 : H ≤ 18446744073709551615) (hL0 : 0 ≤ L) (hL1 : L ≤ 18446744073709551615) (hs0 : 1 ≤ size) (hs1 : size ≤ 18446744073709551615)
    (fl : Hid (∀ w, Calls Try.prog 35 #[.agg #[.int .i64 h, .int .u64 l]] w fun e w' => e = .returned (.agg #[.int .i64 h2, .int .u64 L]) ∧ Below w.heap.size w w'))
    (hu : IntKind.u64.wrap h2 = H)
    (hm0 : 0 ≤ H % size) (hm1 : H % size < size) (hQ : wrap64 (H / size) = Q)
    (hq : Hid ((H % size * 18446744073709551616 + L) / size = q)) (hr : Hid ((H % size * 18446744073709551616 + L) % size = r)) :
    Calls Try.prog 33 #[.agg #[.int .i64 h, .int .u64 l], .int .u64 size] w fun e w' => e = .returned (.tuple #[.agg #[.int .i64 Q, .int .u64 q], .int .u64 r]) ∧ Below w.heap.size w w' := by
  have dv := fun w => Div64_any (H % size) L size hm0 hm1 hs1 hL0 hL1 w
  rw [hq.out, hr.out] at dv
  have Dv := Lib.hid dv
  clear dv
  go_enter Try.func33, Try.ntmps33
  go_wp2_with (go_at_call 35; refine (fl.out _).mono ?_; rintro e w1 ⟨rfl, hb⟩; have hz : w.heap.size + 1 < w1.heap.size := (by have := hb.size; simp at this; omega); have c0 := hb.cell (p := ⟨w.heap.size, 0, none⟩) (by simp; omega); have c1 := hb.cell (p := ⟨w.heap.size, 1, none⟩) (by simp; omega); have c2 := hb.cell (p := ⟨w.heap.size + 1, 0, none⟩) (by simp); have c3 := hb.cell (p := ⟨w.heap.size + 1, 1, none⟩) (by simp); have f0 := hb.frozen (p := ⟨w.heap.size, 0, none⟩) (by simp; omega); have f1 := hb.frozen (p := ⟨w.heap.size, 1, none⟩) (by simp; omega); have f2 := hb.frozen (p := ⟨w.heap.size + 1, 0, none⟩) (by simp); have f3 := hb.frozen (p := ⟨w.heap.size + 1, 1, none⟩) (by simp); simp at c0 c1 c2 c3 f0 f1 f2 f3; have hb' : Below w.heap.size w w1 := below_step (by repeat (first | exact Below.refl _ _ | assumption | refine below_drewN ?_ _ | refine Below.drew ?_ | refine Below.alloc ?_ (by first | omega | (simp; done) | (simp; omega)) _ | refine Below.setCell ?_ (by first | (simp; done) | (simp; omega)) _)) hb)
  go_quiet ((go_at_call 37; exact Calls.quiet_of (Dv.out _)))
  go_wp2
  exact bodyPost_ret (v := .tuple #[.agg #[.int .i64 Q, .int .u64 q], .int .u64 r]) (by simp [results, Try.results33, go_sem, c2, c3]) rfl ⟨rfl, (by repeat (first | exact Below.refl _ _ | assumption | refine below_drewN ?_ _ | refine Below.drew ?_ | refine Below.alloc ?_ (by first | omega | (simp; done) | (simp; omega)) _ | refine Below.setCell ?_ (by first | (simp; done) | (simp; omega)) _))⟩
end Go.Proofs.Ytlfchlholabijaa
