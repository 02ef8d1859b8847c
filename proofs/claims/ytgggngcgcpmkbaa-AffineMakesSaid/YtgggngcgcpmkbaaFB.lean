/- The functions of package fix: what each call gives. -/
import Derived.Test.YtgggngcgcpmkbaaFA
import Derived.Test.YtgggngcgcpmkbaaWS
import Derived.Test.YtgggngcgcpmkbaaWX
import Derived.LoopTactic
namespace Go.Proofs.Ytgggngcgcpmkbaa
set_option linter.unusedVariables false
set_option maxRecDepth 2000
open Go.RowKit
attribute [local go_sem] setCell_twice setCell_pair

theorem bound_any (t : Bool) (w : World) : Calls Try.prog 110 #[.bool t] w fun e w' => e = .returned (.int .i64 (lim t)) ∧ w = w' := by
  cases t
  all_goals
    go_enter Try.func110, Try.ntmps110
    go_wp2
    go_ret
    exact ⟨rfl, rfl⟩

theorem nearest_yes (h l n : Int) (w : World)
    (iv : Hid (∀ w, Calls Try.prog 33 #[.agg #[.int .i64 h, .int .u64 l]] w fun e w' => e = .returned (.tuple #[.int .i64 n, .bool true]) ∧ Below w.heap.size w w')) :
    Calls Try.prog 93 #[.agg #[.int .i64 h, .int .u64 l]] w fun e w' => e = .returned (.int .i64 n) ∧ Below w.heap.size w w' := by
  go_enter Try.func93, Try.ntmps93
  go_wp2_with (go_at_call 33; refine (iv.out _).mono ?_; rintro e w1 ⟨rfl, hb⟩)
  go_ret
  have hbc : Below w.heap.size w w1 := below_step (by repeat (first | exact Below.refl _ _ | assumption | refine below_drewN ?_ _ | refine Below.drew ?_ | refine Below.alloc ?_ (by first | omega | (simp; done) | (simp; omega)) _ | refine Below.setCell ?_ (by first | (simp; done) | (simp; omega)) _)) hb
  exact ⟨rfl, hbc⟩

theorem nearest_no (h l c : Int) (t : Bool) (w : World) (ht : decide (c < 0) = t)
    (iv : Hid (∀ w, Calls Try.prog 33 #[.agg #[.int .i64 h, .int .u64 l]] w fun e w' => e = .returned (.tuple #[.int .i64 0, .bool false]) ∧ Below w.heap.size w w'))
    (sg : Hid (∀ w, Calls Try.prog 111 #[.agg #[.int .i64 h, .int .u64 l]] w fun e w' => e = .returned (.int .i64 c) ∧ Below w.heap.size w w')) :
    Calls Try.prog 93 #[.agg #[.int .i64 h, .int .u64 l]] w fun e w' => e = .returned (.int .i64 (lim t)) ∧ Below w.heap.size w w' := by
  go_enter Try.func93, Try.ntmps93
  go_wp2_with (first | (go_at_call 33; refine (iv.out _).mono ?_; rintro e w1 ⟨rfl, hb⟩; have hz : w.heap.size < w1.heap.size := (by have := hb.size; (try simp at this); omega); have c00 := hb.cell (p := ⟨w.heap.size, 0, none⟩) (by first | omega | (simp; done) | (simp; omega)); have f00 := hb.frozen (p := ⟨w.heap.size, 0, none⟩) (by first | omega | (simp; done) | (simp; omega)); have c01 := hb.cell (p := ⟨w.heap.size, 1, none⟩) (by first | omega | (simp; done) | (simp; omega)); have f01 := hb.frozen (p := ⟨w.heap.size, 1, none⟩) (by first | omega | (simp; done) | (simp; omega)); simp [go_sem] at c00 f00 c01 f01; have hb' : Below w.heap.size w w1 := below_step (by repeat (first | exact Below.refl _ _ | assumption | refine below_drewN ?_ _ | refine Below.drew ?_ | refine Below.alloc ?_ (by first | omega | (simp; done) | (simp; omega)) _ | refine Below.setCell ?_ (by first | (simp; done) | (simp; omega)) _)) hb) | (go_at_call 111; refine (sg.out _).mono ?_; rintro e w2 ⟨rfl, hc⟩) | (go_at_call 110; refine (bound_any t _).mono ?_; rintro e w3 ⟨rfl, rfl⟩))
  go_ret
  exact ⟨rfl, below_step hb' hc⟩

/-- nearest: the nearest Fix -/
theorem nearest_any (z : Int) (w : World) :
    Calls Try.prog 93 #[(.agg #[.int .i64 (hi (z)), .int .u64 (lo (z))])] w fun e w' => e = .returned (.int .i64 (sat z)) ∧ Below w.heap.size w w' := by
  have iv := fun w => Int_any z w
  by_cases hq : -9223372036854775808 ≤ z ∧ z ≤ 9223372036854775807
  · rw [decide_eq_true hq] at iv
    rw [sat_in z hq.1 hq.2]
    exact nearest_yes _ _ z w iv
  · rw [decide_eq_false hq] at iv
    by_cases hn : z < -9223372036854775808
    · have h := nearest_no (hi z) (lo z) (cmpI z 0) true w (by unfold cmpI; rw [if_pos (by omega)]; decide) iv (fun w => Sign_any z w)
      rw [sat_lo z hn]; exact h
    · have h := nearest_no (hi z) (lo z) (cmpI z 0) false w (by unfold cmpI; rw [if_neg (by omega), if_pos (by omega)]; decide) iv (fun w => Sign_any z w)
      rw [sat_hi z (by omega)]; exact h

theorem mul_near (F : Int → Int) (a b h l r : Int) (w : World)
    (ml : Hid (∀ w, Calls Try.prog 80 #[.int .i64 a, .int .i64 b] w fun e w' => e = .returned (.agg #[.int .i64 h, .int .u64 l]) ∧ Below w.heap.size w w'))
    (ne : Hid (∀ w, Calls Try.prog 93 #[.agg #[.int .i64 h, .int .u64 l]] w fun e w' => e = .returned (.int .i64 r) ∧ Below w.heap.size w w'))
    (hb : b = 4294967296) :
    Calls Try.prog 58 #[.int .i64 a] w fun e w' => e = .returned (.int .i64 r) ∧ Below w.heap.size w w' := by
  subst hb
  go_enter Try.func58, Try.ntmps58
  go_wp2_with (first | (go_at_call 80; refine (ml.out _).mono ?_; rintro e w1 ⟨rfl, hb⟩) | (go_at_call 93; refine (ne.out _).mono ?_; rintro e w2 ⟨rfl, hc⟩))
  go_ret
  exact ⟨rfl, below_step hb hc⟩

/-- fix.Of -/
theorem FOf_any (n : Int) (n0 : -9223372036854775808 ≤ n) (n1 : n ≤ 9223372036854775807) (w : World) :
    Calls Try.prog 58 #[.int .i64 n] w fun e w' => e = .returned (.int .i64 (sat (n * 4294967296))) ∧ Below w.heap.size w w' :=
  mul_near id n 4294967296 _ _ _ w (fun w => Mul_any n 4294967296 n0 n1 (by omega) (by omega) w) (fun w => nearest_any _ w) rfl

theorem times_core (a b h l h' l' r : Int) (w : World)
    (ml : Hid (∀ w, Calls Try.prog 80 #[.int .i64 a, .int .i64 b] w fun e w' => e = .returned (.agg #[.int .i64 h, .int .u64 l]) ∧ Below w.heap.size w w'))
    (sh : Hid (∀ w, Calls Try.prog 46 #[.agg #[.int .i64 h, .int .u64 l], .int .i64 32] w fun e w' => e = .returned (.agg #[.int .i64 h', .int .u64 l']) ∧ Below w.heap.size w w'))
    (ne : Hid (∀ w, Calls Try.prog 93 #[.agg #[.int .i64 h', .int .u64 l']] w fun e w' => e = .returned (.int .i64 r) ∧ Below w.heap.size w w')) :
    Calls Try.prog 135 #[.int .i64 a, .int .i64 b] w fun e w' => e = .returned (.int .i64 r) ∧ Below w.heap.size w w' := by
  go_enter Try.func135, Try.ntmps135
  go_wp2_with (first | (go_at_call 80; refine (ml.out _).mono ?_; rintro e w1 ⟨rfl, hb⟩) | (go_at_call 46; refine (sh.out _).mono ?_; rintro e w2 ⟨rfl, hc⟩) | (go_at_call 93; refine (ne.out _).mono ?_; rintro e w3 ⟨rfl, hd⟩))
  go_ret
  exact ⟨rfl, below_step (below_step hb hc) hd⟩

/-- a product, rounded down and saturated -/
def mulF (a b : Int) : Int := sat (a * b / 4294967296)
theorem mulF_bd (a b : Int) : -9223372036854775808 ≤ mulF a b ∧ mulF a b ≤ 9223372036854775807 := sat_bd _

theorem times_any (a b : Int) (a0 : -9223372036854775808 ≤ a) (a1 : a ≤ 9223372036854775807) (b0 : -9223372036854775808 ≤ b) (b1 : b ≤ 9223372036854775807) (w : World) :
    Calls Try.prog 135 #[.int .i64 a, .int .i64 b] w fun e w' => e = .returned (.int .i64 (mulF a b)) ∧ Below w.heap.size w w' := by
  have pb := prod_bd a b a0 a1 b0 b1
  exact times_core a b _ _ _ _ _ w (fun w => Mul_any a b a0 a1 b0 b1 w) (fun w => Shr_any (a * b) (by omega) (by omega) w) (fun w => nearest_any _ w)

theorem FRound_any (x : Int) (x0 : -9223372036854775808 ≤ x) (x1 : x ≤ 9223372036854775807) (w : World) :
    Calls Try.prog 112 #[.int .i64 x] w fun e w' => e = .returned (.int .i64 ((x / 2147483648 + 1) / 2)) ∧ w = w' := by
  have h0 : -9223372036854775808 ≤ x / 2147483648 := by omega
  have h1 : x / 2147483648 ≤ 9223372036 := by omega
  go_enter Try.func112, Try.ntmps112
  go_wp2
  go_ret
  exact ⟨rfl, rfl⟩

theorem fplus_core (a b c : Int) (t : Bool) (w : World) (hc : wrap64 (a + b) = c)
    (ht : decide (bits .and .i64 (bits .xor .i64 a c) (bits .xor .i64 b c) < 0) = t) :
    Calls Try.prog 130 #[.int .i64 a, .int .i64 b] w fun e w' => e = .returned (.int .i64 (pickF t (lim (decide (a < 0))) c)) ∧ w = w' := by
  cases t
  · have ht' := of_decide_eq_false ht
    clear ht
    go_enter Try.func130, Try.ntmps130
    go_wp2
    go_ret
    exact ⟨rfl, rfl⟩
  · have ht' := of_decide_eq_true ht
    clear ht
    go_enter Try.func130, Try.ntmps130
    go_wp2_with (go_at_call 110; refine (bound_any _ _).mono ?_; rintro e w3 ⟨rfl, rfl⟩)
    go_ret
    exact ⟨rfl, rfl⟩

/-- fix.plus -/
theorem fplus_any (a b : Int) (a0 : -9223372036854775808 ≤ a) (a1 : a ≤ 9223372036854775807) (b0 : -9223372036854775808 ≤ b) (b1 : b ≤ 9223372036854775807) (w : World) :
    Calls Try.prog 130 #[.int .i64 a, .int .i64 b] w fun e w' => e = .returned (.int .i64 (sat (a + b))) ∧ w = w' := by
  have h := fplus_core a b _ _ w rfl (add_over a b a0 a1 b0 b1)
  by_cases hs : -9223372036854775808 ≤ a + b ∧ a + b ≤ 9223372036854775807
  · rw [decide_eq_true hs, wrap64_in _ hs.1 hs.2] at h
    rw [sat_in _ hs.1 hs.2]; exact h
  · rw [decide_eq_false hs] at h
    by_cases hn : a + b < -9223372036854775808
    · rw [decide_eq_true (show a < 0 by omega)] at h; rw [sat_lo _ hn]; exact h
    · rw [decide_eq_false (show ¬ a < 0 by omega)] at h; rw [sat_hi _ (by omega)]; exact h

theorem FSub_core (a b c : Int) (t : Bool) (w : World) (hc : wrap64 (a - b) = c)
    (ht : decide (bits .and .i64 (bits .xor .i64 a b) (bits .xor .i64 a c) < 0) = t) :
    Calls Try.prog 124 #[.int .i64 a, .int .i64 b] w fun e w' => e = .returned (.int .i64 (pickF t (lim (decide (a < 0))) c)) ∧ w = w' := by
  cases t
  · have ht' := of_decide_eq_false ht
    clear ht
    go_enter Try.func124, Try.ntmps124
    go_wp2
    go_ret
    exact ⟨rfl, rfl⟩
  · have ht' := of_decide_eq_true ht
    clear ht
    go_enter Try.func124, Try.ntmps124
    go_wp2_with (go_at_call 110; refine (bound_any _ _).mono ?_; rintro e w3 ⟨rfl, rfl⟩)
    go_ret
    exact ⟨rfl, rfl⟩

/-- fix.Sub -/
theorem FSub_any (a b : Int) (a0 : -9223372036854775808 ≤ a) (a1 : a ≤ 9223372036854775807) (b0 : -9223372036854775808 ≤ b) (b1 : b ≤ 9223372036854775807) (w : World) :
    Calls Try.prog 124 #[.int .i64 a, .int .i64 b] w fun e w' => e = .returned (.int .i64 (sat (a - b))) ∧ w = w' := by
  have h := FSub_core a b _ _ w rfl (sub_over a b a0 a1 b0 b1)
  by_cases hs : -9223372036854775808 ≤ a - b ∧ a - b ≤ 9223372036854775807
  · rw [decide_eq_true hs, wrap64_in _ hs.1 hs.2] at h
    rw [sat_in _ hs.1 hs.2]; exact h
  · rw [decide_eq_false hs] at h
    by_cases hn : a - b < -9223372036854775808
    · rw [decide_eq_true (show a < 0 by omega)] at h; rw [sat_lo _ hn]; exact h
    · rw [decide_eq_false (show ¬ a < 0 by omega)] at h; rw [sat_hi _ (by omega)]; exact h

theorem FNeg_any (a : Int) (a0 : -9223372036854775808 ≤ a) (a1 : a ≤ 9223372036854775807) (w : World) :
    Calls Try.prog 114 #[.int .i64 a] w fun e w' => e = .returned (.int .i64 (sat (-a))) ∧ w = w' := by
  have h := fun w => FSub_any 0 a (by omega) (by omega) a0 a1 w
  rw [Int.zero_sub] at h
  have H := Lib.hid h
  clear h
  go_enter Try.func114, Try.ntmps114
  go_wp2_with (go_at_call 124; refine (H.out _).mono ?_; rintro e w3 ⟨rfl, rfl⟩)
  go_ret
  exact ⟨rfl, rfl⟩

theorem FAbs_any (a : Int) (a0 : -9223372036854775808 ≤ a) (a1 : a ≤ 9223372036854775807) (w : World) :
    Calls Try.prog 100 #[.int .i64 a] w fun e w' => e = .returned (.int .i64 (if a < 0 then sat (-a) else a)) ∧ w = w' := by
  have H := Lib.hid (fun w => FNeg_any a a0 a1 w)
  by_cases hn : a < 0
  all_goals
    go_enter Try.func100, Try.ntmps100
    go_wp2_with (go_at_call 114; refine (H.out _).mono ?_; rintro e w3 ⟨rfl, rfl⟩)
    go_ret
    exact ⟨rfl, rfl⟩

end Go.Proofs.Ytgggngcgcpmkbaa
