/- Package octa, and the document's: directions of codes. -/
import Derived.Test.YtgggngcgcpmkbaaOA
namespace Go.Proofs.Ytgggngcgcpmkbaa
set_option linter.unusedVariables false
set_option maxRecDepth 2000
set_option linter.unusedSimpArgs false
open Go.RowKit

/-- a code's half, from the middle on -/
def mid (u : Int) : Int := (if 32768 < u then 32768 else u) - 16384
def decZ (a b : Int) : Int := 16384 - absI a - absI b
def decX (a b : Int) : Int := if decZ a b < 0 then sgnI a (16384 - absI b) else a
def decY (a b : Int) : Int := if decZ a b < 0 then sgnI b (16384 - absI a) else b
theorem mid_bd (u : Int) (h : 0 ≤ u) : -16384 ≤ mid u ∧ mid u ≤ 16384 := by unfold mid; split <;> omega
theorem absI_bd (n k : Int) (h : -k ≤ n ∧ n ≤ k) : 0 ≤ absI n ∧ absI n ≤ k := by unfold absI; split <;> omega

theorem fold_any (a b n m : Int) (p q : Nat) (ha : -16384 ≤ a ∧ a ≤ 16384) (hb : -16384 ≤ b ∧ b ≤ 16384) (w : World) (hp : w.cell? ⟨p, 0, none⟩ = some (.int .i64 n)) (hq : w.cell? ⟨q, 0, none⟩ = some (.int .i64 m)) :
    Calls Try.prog 63 #[.int .i64 a, .int .i64 b, .func (.func 98) #[] #[.pointer (some ⟨p, 0, none⟩)], .func (.func 98) #[] #[.pointer (some ⟨q, 0, none⟩)]] w fun e w' => e = .returned (.tuple #[.int .i64 (sgnI n (16384 - absI b)), .int .i64 (sgnI m (16384 - absI a))]) ∧ w = w' := by
  have ea := absI_bd a 16384 (by omega)
  have eb := absI_bd b 16384 (by omega)
  go_enter Try.func63, Try.ntmps63
  go_wp2_with (first | (go_at_call 62; refine (oabs_any b (by omega) (by omega) _).mono ?_; rintro e w1 ⟨rfl, rfl⟩))
  go_at_call 98
  refine (csign_any n _ p (by omega) (by omega) _ hp).mono ?_; rintro e w1 ⟨rfl, rfl⟩
  go_wp2_with (first | (go_at_call 62; refine (oabs_any a (by omega) (by omega) _).mono ?_; rintro e w1 ⟨rfl, rfl⟩))
  go_at_call 98
  refine (csign_any m _ q (by omega) (by omega) _ hq).mono ?_; rintro e w1 ⟨rfl, rfl⟩
  go_wp2
  go_ret2
  exact ⟨rfl, rfl⟩
theorem mid_if (u : Int) : (if 32768 < u then 32768 else u) = mid u + 16384 := by unfold mid; omega
theorem ODecode_core (x a b X Y Z : Int) (hz : 16384 - absI a - absI b = Z) (ha : -16384 ≤ a ∧ a ≤ 16384) (hb : -16384 ≤ b ∧ b ≤ 16384) (u v : Int) (w : World)
    (ea : (if 32768 < u then 32768 else u) = a + 16384) (eb : (if 32768 < v then 32768 else v) = b + 16384)
    (hX : X = if Z < 0 then sgnI a (16384 - absI b) else a) (hY : Y = if Z < 0 then sgnI b (16384 - absI a) else b)
    (hh : Hid (∀ w, Calls Try.prog 61 #[.int .u32 x] w fun e w' => e = .returned (.tuple #[.int .i64 u, .int .i64 v]) ∧ w = w')) :
    Calls Try.prog 15 #[.int .u32 x] w fun e w' => e = .returned (.agg #[.int .i64 X, .int .i64 Y, .int .i64 Z]) ∧ Below w.heap.size w w' := by
  have ba := absI_bd a 16384 (by omega)
  have bb := absI_bd b 16384 (by omega)
  have ca := oabs_any a (by omega) (by omega)
  have cb := oabs_any b (by omega) (by omega)
  have cf := fun p q w => fold_any a b a b p q ha hb w
  have hmf : ∀ (fn : Fn) (first cap : Array Value) (w : World), (Instr.makeFunc fn first cap).run Try.prog w = .ok (.func fn first cap) w := fun _ _ _ _ => rfl
  generalize absI a = A at *
  generalize absI b = B at *
  by_cases h : Z < 0
  · rw [if_pos h] at hX hY
    go_enter Try.func15, Try.ntmps15
    go_wp2_with (first | (go_at_call 61; refine (hh.out _).mono ?_; rintro e w1 ⟨rfl, rfl⟩) | (go_at_call 62; refine (ca _).mono ?_; rintro e w1 ⟨rfl, rfl⟩) | (go_at_call 62; refine (cb _).mono ?_; rintro e w1 ⟨rfl, rfl⟩) | (go_at_call 64; refine (sign_any _ _).mono ?_; rintro e w1 ⟨rfl, rfl⟩))
    go_at_call 63
    refine (cf _ _ _ ?_ ?_).mono ?_
    · simp [go_sem, World.cell?_alloc_past]
    · simp [go_sem]
    rintro e w1 ⟨rfl, rfl⟩
    go_wp2
    exact bodyPost_ret (v := .agg #[.int .i64 X, .int .i64 Y, .int .i64 Z]) (by simp [results, Try.results15, go_sem, hX, hY]) rfl ⟨rfl, (by repeat (first | exact Below.refl _ _ | assumption | refine below_drewN ?_ _ | refine Below.drew ?_ | refine Below.alloc ?_ (by first | omega | (simp; done) | (simp; omega)) _ | refine Below.setCell ?_ (by first | (simp; done) | (simp; omega)) _))⟩
  · rw [if_neg h] at hX hY
    go_enter Try.func15, Try.ntmps15
    go_wp2_with (first | (go_at_call 61; refine (hh.out _).mono ?_; rintro e w1 ⟨rfl, rfl⟩) | (go_at_call 62; refine (ca _).mono ?_; rintro e w1 ⟨rfl, rfl⟩) | (go_at_call 62; refine (cb _).mono ?_; rintro e w1 ⟨rfl, rfl⟩))
    exact bodyPost_ret (v := .agg #[.int .i64 X, .int .i64 Y, .int .i64 Z]) (by simp [results, Try.results15, go_sem, hX, hY]) rfl ⟨rfl, (by repeat (first | exact Below.refl _ _ | assumption | refine below_drewN ?_ _ | refine Below.drew ?_ | refine Below.alloc ?_ (by first | omega | (simp; done) | (simp; omega)) _ | refine Below.setCell ?_ (by first | (simp; done) | (simp; omega)) _))⟩
def decV (x : Int) : Value := .agg #[.int .i64 (decX (mid (x / 65536)) (mid (x % 65536))), .int .i64 (decY (mid (x / 65536)) (mid (x % 65536))), .int .i64 (decZ (mid (x / 65536)) (mid (x % 65536)))]
theorem ODecode_any (x : Int) (h0 : 0 ≤ x) (h1 : x < 4294967296) (w : World) :
    Calls Try.prog 15 #[.int .u32 x] w fun e w' => e = .returned (decV x) ∧ Below w.heap.size w w' :=
  ODecode_core x (mid (x / 65536)) (mid (x % 65536)) _ _ _ rfl (mid_bd _ (by omega)) (mid_bd _ (by omega)) (x / 65536) (x % 65536) w (mid_if _) (mid_if _) rfl rfl (Lib.hid (halves_any x h0 h1))
theorem sgn_mul (a k : Int) (h : -32768 ≤ k ∧ k ≤ 32768) : wrap64 (sgnI a 1 * k) = sgnI a k := by
  unfold sgnI
  split
  · rw [show (-1 : Int) * k = -k by omega]; exact IntWalk.wrap64_in _ (by omega)
  · rw [Int.one_mul]; exact IntWalk.wrap64_in _ (by omega)
set_option maxHeartbeats 2000000 in
theorem RDecode_lo (x u v a b Z : Int) (eu : x / 65536 = u) (ev : x % 65536 = v) (hz : 16384 - absI a - absI b = Z) (hu : 0 ≤ u) (hv : 0 ≤ v) (hx0 : 0 ≤ x) (hx1 : x < 4294967296) (hu1 : u < 65536) (hv1 : v < 65536) (w : World)
    (ba : 0 ≤ absI a ∧ absI a ≤ 16384) (bb : 0 ≤ absI b ∧ absI b ≤ 16384)
    (ea : 32768 < u ∧ a = 16384 ∨ u ≤ 32768 ∧ a = u - 16384) (eb : 32768 < v ∧ b = 16384 ∨ v ≤ 32768 ∧ b = v - 16384) (h : Z < 0) :
    Calls Try.prog 16 #[.int .u32 x] w fun e w' => e = .returned (.agg #[.int .i64 (wrap64 (sgnI a 1 * (16384 - absI b))), .int .i64 (wrap64 (sgnI b 1 * (16384 - absI a))), .int .i64 Z]) ∧ Below w.heap.size w w' := by
  rcases ea with ⟨h1, rfl⟩ | ⟨h1, rfl⟩
  all_goals rcases eb with ⟨h2, rfl⟩ | ⟨h2, rfl⟩
  all_goals
    go_enter Try.func16, Try.ntmps16
    go_wp2_with (first | (go_at_call 65; refine (RAbs_any _ (by omega) (by omega) _).mono ?_; rintro e w1 ⟨rfl, rfl⟩) | (go_at_call 66; refine (Rsign_any _ _).mono ?_; rintro e w1 ⟨rfl, rfl⟩))
    refine bodyPost_ret (v := .agg #[.int .i64 _, .int .i64 _, .int .i64 _]) (by simp [results, Try.results16, go_sem]) rfl ⟨rfl, (by repeat (first | exact Below.refl _ _ | assumption | refine below_drewN ?_ _ | refine Below.drew ?_ | refine Below.alloc ?_ (by first | omega | (simp; done) | (simp; omega)) _ | refine Below.setCell ?_ (by first | (simp; done) | (simp; omega)) _))⟩
set_option maxHeartbeats 2000000 in
theorem RDecode_hi (x u v a b Z : Int) (eu : x / 65536 = u) (ev : x % 65536 = v) (hz : 16384 - absI a - absI b = Z) (hu : 0 ≤ u) (hv : 0 ≤ v) (hx0 : 0 ≤ x) (hx1 : x < 4294967296) (hu1 : u < 65536) (hv1 : v < 65536) (w : World)
    (ba : 0 ≤ absI a ∧ absI a ≤ 16384) (bb : 0 ≤ absI b ∧ absI b ≤ 16384)
    (ea : 32768 < u ∧ a = 16384 ∨ u ≤ 32768 ∧ a = u - 16384) (eb : 32768 < v ∧ b = 16384 ∨ v ≤ 32768 ∧ b = v - 16384) (h : 0 ≤ Z) :
    Calls Try.prog 16 #[.int .u32 x] w fun e w' => e = .returned (.agg #[.int .i64 a, .int .i64 b, .int .i64 Z]) ∧ Below w.heap.size w w' := by
  rcases ea with ⟨h1, rfl⟩ | ⟨h1, rfl⟩
  all_goals rcases eb with ⟨h2, rfl⟩ | ⟨h2, rfl⟩
  all_goals
    go_enter Try.func16, Try.ntmps16
    go_wp2_with (first | (go_at_call 65; refine (RAbs_any _ (by omega) (by omega) _).mono ?_; rintro e w1 ⟨rfl, rfl⟩) | (go_at_call 66; refine (Rsign_any _ _).mono ?_; rintro e w1 ⟨rfl, rfl⟩))
    refine bodyPost_ret (v := .agg #[.int .i64 _, .int .i64 _, .int .i64 _]) (by simp [results, Try.results16, go_sem]) rfl ⟨rfl, (by repeat (first | exact Below.refl _ _ | assumption | refine below_drewN ?_ _ | refine Below.drew ?_ | refine Below.alloc ?_ (by first | omega | (simp; done) | (simp; omega)) _ | refine Below.setCell ?_ (by first | (simp; done) | (simp; omega)) _))⟩
theorem RDecode_any (x : Int) (h0 : 0 ≤ x) (h1 : x < 4294967296) (w : World) :
    Calls Try.prog 16 #[.int .u32 x] w fun e w' => e = .returned (decV x) ∧ Below w.heap.size w w' := by
  have ma := mid_bd (x / 65536) (by omega)
  have mb := mid_bd (x % 65536) (by omega)
  have ba := absI_bd _ _ ma
  have bb := absI_bd _ _ mb
  unfold decV decX decY
  by_cases h : decZ (mid (x / 65536)) (mid (x % 65536)) < 0
  · have := RDecode_lo x _ _ (mid (x / 65536)) (mid (x % 65536)) _ rfl rfl rfl (by omega) (by omega) h0 h1 (by omega) (by omega) w ba bb (by unfold mid; omega) (by unfold mid; omega) h
    rw [sgn_mul _ _ (by omega), sgn_mul _ _ (by omega)] at this
    rw [if_pos h, if_pos h]; exact this
  · rw [if_neg h, if_neg h]
    exact RDecode_hi x _ _ (mid (x / 65536)) (mid (x % 65536)) _ rfl rfl rfl (by omega) (by omega) h0 h1 (by omega) (by omega) w ba bb (by unfold mid; omega) (by unfold mid; omega) (by unfold decZ at h; omega)
end Go.Proofs.Ytgggngcgcpmkbaa
