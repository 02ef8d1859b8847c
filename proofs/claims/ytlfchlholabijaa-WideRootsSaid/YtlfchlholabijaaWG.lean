/- wide.Div: the walk. -/
import Derived.Test.YtlfchlholabijaaWF
import Derived.StillTailTactics
namespace Go.Proofs.Ytlfchlholabijaa
set_option linter.unusedVariables false
set_option maxRecDepth 2000
open Go.RowKit
attribute [local go_sem] setCell_twice setCell_pair

theorem Div_zero (h l : Int) (w : World) :
    Calls Try.prog 22 #[.agg #[.int .i64 h, .int .u64 l], .int .i64 0] w fun e w' => e = .returned (.tuple #[.agg #[.int .i64 0, .int .u64 0], .int .i64 0, .bool false]) ∧ Below w.heap.size w w' := by
  go_enter Try.func22, Try.ntmps22
  go_wp2
  exact bodyPost_ret (v := .tuple #[.agg #[.int .i64 0, .int .u64 0], .int .i64 0, .bool false]) (by simp [results, Try.results22, go_sem]) rfl ⟨rfl, (by repeat (first | exact Below.refl _ _ | assumption | refine below_drewN ?_ _ | refine Below.drew ?_ | refine Below.alloc ?_ (by first | omega | (simp; done) | (simp; omega)) _ | refine Below.setCell ?_ (by first | (simp; done) | (simp; omega)) _))⟩

set_option maxRecDepth 2000 in
theorem Div_same (h l d D qh ql rest rr : Int) (w : World) (hd : (d == 0) = false) (hs : h < 0 ∧ d < 0 ∨ ¬ h < 0 ∧ ¬ d < 0) (hq : ¬ qh < 0)
    (mg : Hid (∀ w, Calls Try.prog 32 #[.int .i64 d] w fun e w' => e = .returned (.int .u64 D) ∧ w = w'))
    (dv : Hid (∀ w, Calls Try.prog 33 #[.agg #[.int .i64 h, .int .u64 l], .int .u64 D] w fun e w' => e = .returned (.tuple #[.agg #[.int .i64 qh, .int .u64 ql], .int .u64 rest]) ∧ Below w.heap.size w w'))
    (sg : Hid (∀ w, Calls Try.prog 34 #[.int .u64 rest, .int .i64 d] w fun e w' => e = .returned (.int .i64 rr) ∧ w = w')) :
    Calls Try.prog 22 #[.agg #[.int .i64 h, .int .u64 l], .int .i64 d] w fun e w' => e = .returned (.tuple #[.agg #[.int .i64 qh, .int .u64 ql], .int .i64 rr, .bool true]) ∧ Below w.heap.size w w' := by
  rcases hs with ⟨hh, hd0⟩ | ⟨hh, hd0⟩
  all_goals
    have hsg : (decide (h < 0) == decide (d < 0)) = true := by simp [hh, hd0]
    go_enter Try.func22, Try.ntmps22
    go_wp2_with (first | (go_at_call 32; refine (mg.out _).mono ?_; rintro e w1 ⟨rfl, rfl⟩) | (go_at_call 33; refine (dv.out _).mono ?_; rintro e w1 ⟨rfl, hb⟩; have hz : w.heap.size + 1 < w1.heap.size := (by have := hb.size; (try simp at this); omega); have c00 := hb.cell (p := ⟨w.heap.size, 0, none⟩) (by first | omega | (simp; done) | (simp; omega)); have f00 := hb.frozen (p := ⟨w.heap.size, 0, none⟩) (by first | omega | (simp; done) | (simp; omega)); have c01 := hb.cell (p := ⟨w.heap.size, 1, none⟩) (by first | omega | (simp; done) | (simp; omega)); have f01 := hb.frozen (p := ⟨w.heap.size, 1, none⟩) (by first | omega | (simp; done) | (simp; omega)); have c10 := hb.cell (p := ⟨w.heap.size + 1, 0, none⟩) (by first | omega | (simp; done) | (simp; omega)); have f10 := hb.frozen (p := ⟨w.heap.size + 1, 0, none⟩) (by first | omega | (simp; done) | (simp; omega)); have c11 := hb.cell (p := ⟨w.heap.size + 1, 1, none⟩) (by first | omega | (simp; done) | (simp; omega)); have f11 := hb.frozen (p := ⟨w.heap.size + 1, 1, none⟩) (by first | omega | (simp; done) | (simp; omega)); simp [go_sem] at c00 f00 c01 f01 c10 f10 c11 f11; have hb' : Below w.heap.size w w1 := below_step (by repeat (first | exact Below.refl _ _ | assumption | refine below_drewN ?_ _ | refine Below.drew ?_ | refine Below.alloc ?_ (by first | omega | (simp; done) | (simp; omega)) _ | refine Below.setCell ?_ (by first | (simp; done) | (simp; omega)) _)) hb))
    refine wp_region_still_tail 4 (by kernel_rfl) (by kernel_rfl) ?_; simp only [List.take_succ_cons, List.take_zero, List.drop_succ_cons, List.drop_zero]; change wpStill _ _ (World.drew _) (fun a1 => wpList _ _ _ _ a1 (World.drew _)) _ _; repeat still_step
    refine wpStill_step (fun K hK => ?_); go_simp; refine ⟨_, (sg.out _).mono (fun _ _ h => ⟨h.1, h.2.symm⟩), hK _ ?_⟩; clear hK K; repeat still_step
    refine wpStill_nil ?_
    go_wp2
    exact bodyPost_ret (v := .tuple #[.agg #[.int .i64 qh, .int .u64 ql], .int .i64 rr, .bool true]) (by simp [results, Try.results22, go_sem, c10, c11]) rfl ⟨rfl, (by repeat (first | exact Below.refl _ _ | assumption | refine below_drewN ?_ _ | refine Below.drew ?_ | refine Below.alloc ?_ (by first | omega | (simp; done) | (simp; omega)) _ | refine Below.setCell ?_ (by first | (simp; done) | (simp; omega)) _))⟩

set_option maxRecDepth 2000 in
theorem Div_over (h l d D qh ql rest : Int) (w : World) (hd : (d == 0) = false) (hh : h < 0) (hd0 : d < 0) (hq : qh < 0)
    (mg : Hid (∀ w, Calls Try.prog 32 #[.int .i64 d] w fun e w' => e = .returned (.int .u64 D) ∧ w = w'))
    (dv : Hid (∀ w, Calls Try.prog 33 #[.agg #[.int .i64 h, .int .u64 l], .int .u64 D] w fun e w' => e = .returned (.tuple #[.agg #[.int .i64 qh, .int .u64 ql], .int .u64 rest]) ∧ Below w.heap.size w w')) :
    Calls Try.prog 22 #[.agg #[.int .i64 h, .int .u64 l], .int .i64 d] w fun e w' => e = .returned (.tuple #[.agg #[.int .i64 0, .int .u64 0], .int .i64 0, .bool false]) ∧ Below w.heap.size w w' := by
  go_enter Try.func22, Try.ntmps22
  go_wp2_with (first | (go_at_call 32; refine (mg.out _).mono ?_; rintro e w1 ⟨rfl, rfl⟩) | (go_at_call 33; refine (dv.out _).mono ?_; rintro e w1 ⟨rfl, hb⟩; have hz : w.heap.size + 1 < w1.heap.size := (by have := hb.size; (try simp at this); omega); have c00 := hb.cell (p := ⟨w.heap.size, 0, none⟩) (by first | omega | (simp; done) | (simp; omega)); have f00 := hb.frozen (p := ⟨w.heap.size, 0, none⟩) (by first | omega | (simp; done) | (simp; omega)); have c01 := hb.cell (p := ⟨w.heap.size, 1, none⟩) (by first | omega | (simp; done) | (simp; omega)); have f01 := hb.frozen (p := ⟨w.heap.size, 1, none⟩) (by first | omega | (simp; done) | (simp; omega)); have c10 := hb.cell (p := ⟨w.heap.size + 1, 0, none⟩) (by first | omega | (simp; done) | (simp; omega)); have f10 := hb.frozen (p := ⟨w.heap.size + 1, 0, none⟩) (by first | omega | (simp; done) | (simp; omega)); have c11 := hb.cell (p := ⟨w.heap.size + 1, 1, none⟩) (by first | omega | (simp; done) | (simp; omega)); have f11 := hb.frozen (p := ⟨w.heap.size + 1, 1, none⟩) (by first | omega | (simp; done) | (simp; omega)); simp [go_sem] at c00 f00 c01 f01 c10 f10 c11 f11; have hb' : Below w.heap.size w w1 := below_step (by repeat (first | exact Below.refl _ _ | assumption | refine below_drewN ?_ _ | refine Below.drew ?_ | refine Below.alloc ?_ (by first | omega | (simp; done) | (simp; omega)) _ | refine Below.setCell ?_ (by first | (simp; done) | (simp; omega)) _)) hb))
  exact bodyPost_ret (v := .tuple #[.agg #[.int .i64 0, .int .u64 0], .int .i64 0, .bool false]) (by simp [results, Try.results22, go_sem, c10, c11]) rfl ⟨rfl, (by repeat (first | exact Below.refl _ _ | assumption | refine below_drewN ?_ _ | refine Below.drew ?_ | refine Below.alloc ?_ (by first | omega | (simp; done) | (simp; omega)) _ | refine Below.setCell ?_ (by first | (simp; done) | (simp; omega)) _))⟩

set_option maxRecDepth 2000 in
/-- unlike signs, and nothing is left -/
theorem Div_unlike0 (h l d D qh ql rr fh fl : Int) (w : World) (hd : (d == 0) = false) (hs : h < 0 ∧ ¬ d < 0 ∨ ¬ h < 0 ∧ d < 0)
    (mg : Hid (∀ w, Calls Try.prog 32 #[.int .i64 d] w fun e w' => e = .returned (.int .u64 D) ∧ w = w'))
    (dv : Hid (∀ w, Calls Try.prog 33 #[.agg #[.int .i64 h, .int .u64 l], .int .u64 D] w fun e w' => e = .returned (.tuple #[.agg #[.int .i64 qh, .int .u64 ql], .int .u64 0]) ∧ Below w.heap.size w w'))
    (fp : Hid (∀ w, Calls Try.prog 35 #[.agg #[.int .i64 qh, .int .u64 ql]] w fun e w' => e = .returned (.agg #[.int .i64 fh, .int .u64 fl]) ∧ Below w.heap.size w w'))
    (sg : Hid (∀ w, Calls Try.prog 34 #[.int .u64 0, .int .i64 d] w fun e w' => e = .returned (.int .i64 rr) ∧ w = w')) :
    Calls Try.prog 22 #[.agg #[.int .i64 h, .int .u64 l], .int .i64 d] w fun e w' => e = .returned (.tuple #[.agg #[.int .i64 fh, .int .u64 fl], .int .i64 rr, .bool true]) ∧ Below w.heap.size w w' := by
  rcases hs with ⟨hh, hd0⟩ | ⟨hh, hd0⟩
  all_goals
    go_enter Try.func22, Try.ntmps22
    go_wp2_with (first | (go_at_call 32; refine (mg.out _).mono ?_; rintro e w1 ⟨rfl, rfl⟩) | (go_at_call 33; refine (dv.out _).mono ?_; rintro e w1 ⟨rfl, hb⟩; have hz : w.heap.size + 1 < w1.heap.size := (by have := hb.size; (try simp at this); omega); have c00 := hb.cell (p := ⟨w.heap.size, 0, none⟩) (by first | omega | (simp; done) | (simp; omega)); have f00 := hb.frozen (p := ⟨w.heap.size, 0, none⟩) (by first | omega | (simp; done) | (simp; omega)); have c01 := hb.cell (p := ⟨w.heap.size, 1, none⟩) (by first | omega | (simp; done) | (simp; omega)); have f01 := hb.frozen (p := ⟨w.heap.size, 1, none⟩) (by first | omega | (simp; done) | (simp; omega)); have c10 := hb.cell (p := ⟨w.heap.size + 1, 0, none⟩) (by first | omega | (simp; done) | (simp; omega)); have f10 := hb.frozen (p := ⟨w.heap.size + 1, 0, none⟩) (by first | omega | (simp; done) | (simp; omega)); have c11 := hb.cell (p := ⟨w.heap.size + 1, 1, none⟩) (by first | omega | (simp; done) | (simp; omega)); have f11 := hb.frozen (p := ⟨w.heap.size + 1, 1, none⟩) (by first | omega | (simp; done) | (simp; omega)); simp [go_sem] at c00 f00 c01 f01 c10 f10 c11 f11; have hb' : Below w.heap.size w w1 := below_step (by repeat (first | exact Below.refl _ _ | assumption | refine below_drewN ?_ _ | refine Below.drew ?_ | refine Below.alloc ?_ (by first | omega | (simp; done) | (simp; omega)) _ | refine Below.setCell ?_ (by first | (simp; done) | (simp; omega)) _)) hb) | (go_at_call 35; refine (fp.out _).mono ?_; rintro e w3 ⟨rfl, hB⟩; have hzs : w.heap.size + 1 < w3.heap.size := (by have := hB.size; (try simp at this); omega); have c00s := hB.cell (p := ⟨w.heap.size, 0, none⟩) (by first | omega | (simp; done) | (simp; omega)); have f00s := hB.frozen (p := ⟨w.heap.size, 0, none⟩) (by first | omega | (simp; done) | (simp; omega)); have c01s := hB.cell (p := ⟨w.heap.size, 1, none⟩) (by first | omega | (simp; done) | (simp; omega)); have f01s := hB.frozen (p := ⟨w.heap.size, 1, none⟩) (by first | omega | (simp; done) | (simp; omega)); have c10s := hB.cell (p := ⟨w.heap.size + 1, 0, none⟩) (by first | omega | (simp; done) | (simp; omega)); have f10s := hB.frozen (p := ⟨w.heap.size + 1, 0, none⟩) (by first | omega | (simp; done) | (simp; omega)); have c11s := hB.cell (p := ⟨w.heap.size + 1, 1, none⟩) (by first | omega | (simp; done) | (simp; omega)); have f11s := hB.frozen (p := ⟨w.heap.size + 1, 1, none⟩) (by first | omega | (simp; done) | (simp; omega)); simp [go_sem, c00, c01, c10, c11, f00, f01, f10, f11] at c00s f00s c01s f01s c10s f10s c11s f11s; have hbs' : Below w.heap.size w w3 := below_step (by repeat (first | exact Below.refl _ _ | assumption | refine below_drewN ?_ _ | refine Below.drew ?_ | refine Below.alloc ?_ (by first | omega | (simp; done) | (simp; omega)) _ | refine Below.setCell ?_ (by first | (simp; done) | (simp; omega)) _)) hB))
    refine wp_region_still_tail 4 (by kernel_rfl) (by kernel_rfl) ?_; simp only [List.take_succ_cons, List.take_zero, List.drop_succ_cons, List.drop_zero]; change wpStill _ _ (World.drew _) (fun a1 => wpList _ _ _ _ a1 (World.drew _)) _ _; repeat still_step
    refine wpStill_step (fun K hK => ?_); go_simp; refine ⟨_, (sg.out _).mono (fun _ _ h => ⟨h.1, h.2.symm⟩), hK _ ?_⟩; clear hK K; repeat still_step
    refine wpStill_nil ?_
    go_wp2
    exact bodyPost_ret (v := .tuple #[.agg #[.int .i64 fh, .int .u64 fl], .int .i64 rr, .bool true]) (by simp [results, Try.results22, go_sem, c10s, c11s]) rfl ⟨rfl, (by repeat (first | exact Below.refl _ _ | assumption | refine below_drewN ?_ _ | refine Below.drew ?_ | refine Below.alloc ?_ (by first | omega | (simp; done) | (simp; omega)) _ | refine Below.setCell ?_ (by first | (simp; done) | (simp; omega)) _))⟩
end Go.Proofs.Ytlfchlholabijaa
