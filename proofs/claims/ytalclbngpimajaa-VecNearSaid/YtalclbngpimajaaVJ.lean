/- Unit vectors: vec's and the document's; vec.Toward. -/
import Derived.Test.YtalclbngpimajaaVG
import Derived.Test.YtalclbngpimajaaVI
import Derived.Deep.RegionHeld3
namespace Go.Proofs.Ytalclbngpimajaa
set_option linter.unusedVariables false
set_option maxRecDepth 2000
set_option linter.unusedSimpArgs false
open Go.RowKit
attribute [local go_sem] setCell_twice setCell_pair

/-- a part of a vector by its length -/
def unitF (x n : Int) : Int := if n = 0 then 0 else sat (x * 4294967296 / n)
theorem unitF_in (x n : Int) : in64 (unitF x n) := by unfold unitF; split; (show in64 0; unfold in64; omega); exact in64_sat _

theorem divU_any (x n : Int) (hx : in64 x) (n0 : 0 ≤ n) (n1 : n ≤ 9223372036854775807) (h0 : n = 0 → x = 0) (w : World) :
    Calls Try.prog 90 #[.int .i64 x, .int .i64 n] w fun e w' => e = .returned (.int .i64 (unitF x n)) ∧ Below w.heap.size w w' := by
  unfold unitF
  by_cases hn : n = 0
  · subst hn
    obtain rfl := h0 rfl
    have h := FDiv_zero 0 w
    rw [if_pos rfl] at h ⊢
    exact h
  · rw [if_neg hn]
    exact FDiv_any x n _ (x * 4294967296 % n) hx.1 hx.2 (by omega) n1 hn (by have := Int.mul_ediv_add_emod (x * 4294967296) n; omega) (fun h => ⟨Int.emod_nonneg _ hn, Int.emod_lt_of_pos _ h⟩) (fun h => by omega) w
theorem rdivU_any (x n : Int) (hx : in64 x) (n0 : 0 ≤ n) (n1 : n ≤ 9223372036854775807) (h0 : n = 0 → x = 0) (w : World) :
    Calls Try.prog 91 #[.int .i64 x, .int .i64 n] w fun e w' => e = .returned (.int .i64 (unitF x n)) ∧ Below w.heap.size w w' := by
  unfold unitF
  by_cases hn : n = 0
  · subst hn
    obtain rfl := h0 rfl
    have h := RDiv_by0 0 (by omega) (by omega) w
    rw [if_pos rfl] at h ⊢
    exact h
  · rw [if_neg hn]
    exact RDiv_any x n _ (x * 4294967296 % n) hx.1 hx.2 (by omega) n1 hn (by have := Int.mul_ediv_add_emod (x * 4294967296) n; omega) (fun h => ⟨Int.emod_nonneg _ hn, Int.emod_lt_of_pos _ h⟩) (fun h => by omega) w

theorem VUnit_core (x y z n X Y Z : Int) (w : World)
    (ln : Hid (∀ w, Calls Try.prog 34 #[(.agg #[.int .i64 x, .int .i64 y, .int .i64 z])] w fun e w' => e = .returned (.int .i64 n) ∧ Below w.heap.size w w'))
    (H : Hid (∀ (w : World) (b : Nat), b < w.heap.size → w.cell? ⟨b, 0, none⟩ = some (.int .i64 n) → Calls Try.prog 73 #[.int .i64 x, .int .i64 y, .int .i64 z, .func (.func 89) #[] #[.pointer (some ⟨b, 0, none⟩)]] w fun e w' => e = .returned (.agg #[.int .i64 X, .int .i64 Y, .int .i64 Z]) ∧ Below w.heap.size w w')) :
    Calls Try.prog 36 #[(.agg #[.int .i64 x, .int .i64 y, .int .i64 z])] w fun e w' => e = .returned (.agg #[.int .i64 X, .int .i64 Y, .int .i64 Z]) ∧ Below w.heap.size w w' := by
  go_enter Try.func36, Try.ntmps36
  go_wp2_with (fail); go_at_call 34; refine (ln.out _).mono ?_; rintro e w1 ⟨rfl, hb⟩
  have hB : Below w.heap.size w w1 := below_step (by repeat (first | exact Below.refl _ _ | assumption | refine below_drewN ?_ _ | refine Below.drew ?_ | refine Below.alloc ?_ (by first | omega | (simp; done) | (simp; omega)) _ | refine Below.setCell ?_ (by first | (simp; done) | (simp; omega)) _)) hb
  have hz : w.heap.size + 1 < w1.heap.size := (by have := hb.size; (try simp at this); omega)
  have hz0 : w.heap.size < w1.heap.size := (by omega)
  have c0a := hb.cell (p := ⟨w.heap.size, 0, none⟩) (by first | omega | (simp; done) | (simp; omega))
  have g0a := hb.frozen (p := ⟨w.heap.size, 0, none⟩) (by first | omega | (simp; done) | (simp; omega))
  have c1a := hb.cell (p := ⟨w.heap.size, 1, none⟩) (by first | omega | (simp; done) | (simp; omega))
  have g1a := hb.frozen (p := ⟨w.heap.size, 1, none⟩) (by first | omega | (simp; done) | (simp; omega))
  have c2a := hb.cell (p := ⟨w.heap.size, 2, none⟩) (by first | omega | (simp; done) | (simp; omega))
  have g2a := hb.frozen (p := ⟨w.heap.size, 2, none⟩) (by first | omega | (simp; done) | (simp; omega))
  simp [go_sem] at c0a g0a c1a g1a c2a g2a
  have c0r := hb.cell (p := ⟨w.heap.size + 1, 0, none⟩) (by first | omega | (simp; done) | (simp; omega))
  have g0r := hb.frozen (p := ⟨w.heap.size + 1, 0, none⟩) (by first | omega | (simp; done) | (simp; omega))
  have c1r := hb.cell (p := ⟨w.heap.size + 1, 1, none⟩) (by first | omega | (simp; done) | (simp; omega))
  have g1r := hb.frozen (p := ⟨w.heap.size + 1, 1, none⟩) (by first | omega | (simp; done) | (simp; omega))
  have c2r := hb.cell (p := ⟨w.heap.size + 1, 2, none⟩) (by first | omega | (simp; done) | (simp; omega))
  have g2r := hb.frozen (p := ⟨w.heap.size + 1, 2, none⟩) (by first | omega | (simp; done) | (simp; omega))
  simp [go_sem] at c0r g0r c1r g1r c2r g2r
  clear hb g0a g1a g2a
  go_wp2_with (fail); go_at_call 73; refine (H.out _ _ (by simp) (by simp [go_sem])).mono ?_; rintro e w2 ⟨rfl, hb⟩
  have hB2 : Below w.heap.size w w2 := below_step (by repeat (first | exact Below.refl _ _ | assumption | refine below_drewN ?_ _ | refine Below.drew ?_ | refine Below.alloc ?_ (by first | omega | (simp; done) | (simp; omega)) _ | refine Below.setCell ?_ (by first | (simp; done) | (simp; omega)) _)) hb
  have hz2 : w.heap.size + 1 < w2.heap.size := (by have := hb.size; (try simp at this); omega)
  have c0s := hb.cell (p := ⟨w.heap.size + 1, 0, none⟩) (by first | omega | (simp; done) | (simp; omega))
  have g0s := hb.frozen (p := ⟨w.heap.size + 1, 0, none⟩) (by first | omega | (simp; done) | (simp; omega))
  have c1s := hb.cell (p := ⟨w.heap.size + 1, 1, none⟩) (by first | omega | (simp; done) | (simp; omega))
  have g1s := hb.frozen (p := ⟨w.heap.size + 1, 1, none⟩) (by first | omega | (simp; done) | (simp; omega))
  have c2s := hb.cell (p := ⟨w.heap.size + 1, 2, none⟩) (by first | omega | (simp; done) | (simp; omega))
  have g2s := hb.frozen (p := ⟨w.heap.size + 1, 2, none⟩) (by first | omega | (simp; done) | (simp; omega))
  simp [go_sem, c0r, c1r, c2r, g0r, g1r, g2r, hz] at c0s g0s c1s g1s c2s g2s
  clear hb
  go_wp2
  exact bodyPost_ret (v := (.agg #[.int .i64 X, .int .i64 Y, .int .i64 Z])) (by simp [results, Try.results36, go_sem, c0s, c1s, c2s]) rfl ⟨rfl, (by repeat (first | exact Below.refl _ _ | assumption | refine below_drewN ?_ _ | refine Below.drew ?_ | refine Below.alloc ?_ (by first | omega | (simp; done) | (simp; omega)) _ | refine Below.setCell ?_ (by first | (simp; done) | (simp; omega)) _))⟩

theorem zero_of_root (x y z : Int) (s : Nat) (s2 : x * x + y * y + z * z < ((s : Int) + 1) * (s + 1)) (h : min (s : Int) 9223372036854775807 = 0) : x = 0 ∧ y = 0 ∧ z = 0 := by
  obtain rfl : s = 0 := by omega
  have hx := abs_sq x
  have hy := abs_sq y
  have hz := abs_sq z
  have px := Int.mul_nonneg (show (0 : Int) ≤ x.natAbs by omega) (show (0 : Int) ≤ x.natAbs by omega)
  have py := Int.mul_nonneg (show (0 : Int) ≤ y.natAbs by omega) (show (0 : Int) ≤ y.natAbs by omega)
  have pz := Int.mul_nonneg (show (0 : Int) ≤ z.natAbs by omega) (show (0 : Int) ≤ z.natAbs by omega)
  have s3 : x * x + y * y + z * z < 1 := by simpa using s2
  have ex : x * x = 0 := by omega
  have ey : y * y = 0 := by omega
  have ez : z * z = 0 := by omega
  exact ⟨(Int.mul_eq_zero.1 ex).elim id id, (Int.mul_eq_zero.1 ey).elim id id, (Int.mul_eq_zero.1 ez).elim id id⟩

/-- the length, as a number: of a vector whose sum of squares has the root s -/
theorem VUnit_any (x y z : Int) (s : Nat) (hx : in64 x) (hy : in64 y) (hz : in64 z) (s1 : (s : Int) * s ≤ x * x + y * y + z * z) (s2 : x * x + y * y + z * z < ((s : Int) + 1) * (s + 1)) (w : World) :
    Calls Try.prog 36 #[(.agg #[.int .i64 x, .int .i64 y, .int .i64 z])] w fun e w' => e = .returned (.agg #[.int .i64 (unitF x (min (s : Int) 9223372036854775807)), .int .i64 (unitF y (min (s : Int) 9223372036854775807)), .int .i64 (unitF z (min (s : Int) 9223372036854775807))]) ∧ Below w.heap.size w w' := by
  have z0 : min (s : Int) 9223372036854775807 = 0 → x = 0 ∧ y = 0 ∧ z = 0 := zero_of_root x y z s s2
  refine VUnit_core x y z _ _ _ _ w (fun w => VLength_any x y z s hx hy hz s1 s2 w) (Lib.hid fun w b hb hc => eachUnit_any x y z _ _ _ _ b w hb hc (fun w => divU_any x _ hx (by omega) (by omega) (fun h => (z0 h).1) w) (fun w => divU_any y _ hy (by omega) (by omega) (fun h => (z0 h).2.1) w) (fun w => divU_any z _ hz (by omega) (by omega) (fun h => (z0 h).2.2) w))

theorem RVUnit_zero (w : World)
    (ln : Hid (∀ w, Calls Try.prog 35 #[(.agg #[.int .i64 0, .int .i64 0, .int .i64 0])] w fun e w' => e = .returned (.int .i64 0) ∧ Below w.heap.size w w')) :
    Calls Try.prog 37 #[(.agg #[.int .i64 0, .int .i64 0, .int .i64 0])] w fun e w' => e = .returned (.agg #[.int .i64 0, .int .i64 0, .int .i64 0]) ∧ Below w.heap.size w w' := by
  go_enter Try.func37, Try.ntmps37
  go_wp2_with (fail); go_at_call 35; refine (ln.out _).mono ?_; rintro e w1 ⟨rfl, hb⟩
  have hB : Below w.heap.size w w1 := below_step (by repeat (first | exact Below.refl _ _ | assumption | refine below_drewN ?_ _ | refine Below.drew ?_ | refine Below.alloc ?_ (by first | omega | (simp; done) | (simp; omega)) _ | refine Below.setCell ?_ (by first | (simp; done) | (simp; omega)) _)) hb
  have hz : w.heap.size + 1 < w1.heap.size := (by have := hb.size; (try simp at this); omega)
  have hz0 : w.heap.size < w1.heap.size := (by omega)
  have c0a := hb.cell (p := ⟨w.heap.size, 0, none⟩) (by first | omega | (simp; done) | (simp; omega))
  have g0a := hb.frozen (p := ⟨w.heap.size, 0, none⟩) (by first | omega | (simp; done) | (simp; omega))
  have c1a := hb.cell (p := ⟨w.heap.size, 1, none⟩) (by first | omega | (simp; done) | (simp; omega))
  have g1a := hb.frozen (p := ⟨w.heap.size, 1, none⟩) (by first | omega | (simp; done) | (simp; omega))
  have c2a := hb.cell (p := ⟨w.heap.size, 2, none⟩) (by first | omega | (simp; done) | (simp; omega))
  have g2a := hb.frozen (p := ⟨w.heap.size, 2, none⟩) (by first | omega | (simp; done) | (simp; omega))
  simp [go_sem] at c0a g0a c1a g1a c2a g2a
  have c0r := hb.cell (p := ⟨w.heap.size + 1, 0, none⟩) (by first | omega | (simp; done) | (simp; omega))
  have g0r := hb.frozen (p := ⟨w.heap.size + 1, 0, none⟩) (by first | omega | (simp; done) | (simp; omega))
  have c1r := hb.cell (p := ⟨w.heap.size + 1, 1, none⟩) (by first | omega | (simp; done) | (simp; omega))
  have g1r := hb.frozen (p := ⟨w.heap.size + 1, 1, none⟩) (by first | omega | (simp; done) | (simp; omega))
  have c2r := hb.cell (p := ⟨w.heap.size + 1, 2, none⟩) (by first | omega | (simp; done) | (simp; omega))
  have g2r := hb.frozen (p := ⟨w.heap.size + 1, 2, none⟩) (by first | omega | (simp; done) | (simp; omega))
  simp [go_sem] at c0r g0r c1r g1r c2r g2r
  clear hb g0a g1a g2a
  go_wp2
  exact bodyPost_ret (v := (.agg #[.int .i64 0, .int .i64 0, .int .i64 0])) (by simp [results, Try.results37, go_sem, c0r, c1r, c2r]) rfl ⟨rfl, (by repeat (first | exact Below.refl _ _ | assumption | refine below_drewN ?_ _ | refine Below.drew ?_ | refine Below.alloc ?_ (by first | omega | (simp; done) | (simp; omega)) _ | refine Below.setCell ?_ (by first | (simp; done) | (simp; omega)) _))⟩

set_option maxHeartbeats 1000000 in
theorem RVUnit_core (x y z n X Y Z : Int) (w : World) (hn : (n == 0) = false)
    (ln : Hid (∀ w, Calls Try.prog 35 #[(.agg #[.int .i64 x, .int .i64 y, .int .i64 z])] w fun e w' => e = .returned (.int .i64 n) ∧ Below w.heap.size w w'))
    (fx : Hid (∀ w, Calls Try.prog 91 #[.int .i64 x, .int .i64 n] w fun e w' => e = .returned (.int .i64 X) ∧ Below w.heap.size w w'))
    (fy : Hid (∀ w, Calls Try.prog 91 #[.int .i64 y, .int .i64 n] w fun e w' => e = .returned (.int .i64 Y) ∧ Below w.heap.size w w'))
    (fz : Hid (∀ w, Calls Try.prog 91 #[.int .i64 z, .int .i64 n] w fun e w' => e = .returned (.int .i64 Z) ∧ Below w.heap.size w w')) :
    Calls Try.prog 37 #[(.agg #[.int .i64 x, .int .i64 y, .int .i64 z])] w fun e w' => e = .returned (.agg #[.int .i64 X, .int .i64 Y, .int .i64 Z]) ∧ Below w.heap.size w w' := by
  go_enter Try.func37, Try.ntmps37
  go_wp2_with (fail); go_at_call 35; refine (ln.out _).mono ?_; rintro e W0 ⟨rfl, hb⟩
  have hB0 : Below w.heap.size w W0 := below_step (by repeat (first | exact Below.refl _ _ | assumption | refine below_drewN ?_ _ | refine Below.drew ?_ | refine Below.alloc ?_ (by first | omega | (simp; done) | (simp; omega)) _ | refine Below.setCell ?_ (by first | (simp; done) | (simp; omega)) _)) hb
  have hz : w.heap.size + 1 < W0.heap.size := (by have := hb.size; (try simp at this); omega)
  have c0a := hb.cell (p := ⟨w.heap.size, 0, none⟩) (by first | omega | (simp; done) | (simp; omega))
  have g0a := hb.frozen (p := ⟨w.heap.size, 0, none⟩) (by first | omega | (simp; done) | (simp; omega))
  have c1a := hb.cell (p := ⟨w.heap.size, 1, none⟩) (by first | omega | (simp; done) | (simp; omega))
  have g1a := hb.frozen (p := ⟨w.heap.size, 1, none⟩) (by first | omega | (simp; done) | (simp; omega))
  have c2a := hb.cell (p := ⟨w.heap.size, 2, none⟩) (by first | omega | (simp; done) | (simp; omega))
  have g2a := hb.frozen (p := ⟨w.heap.size, 2, none⟩) (by first | omega | (simp; done) | (simp; omega))
  simp [go_sem] at c0a g0a c1a g1a c2a g2a
  have c0r := hb.cell (p := ⟨w.heap.size + 1, 0, none⟩) (by first | omega | (simp; done) | (simp; omega))
  have g0r := hb.frozen (p := ⟨w.heap.size + 1, 0, none⟩) (by first | omega | (simp; done) | (simp; omega))
  have c1r := hb.cell (p := ⟨w.heap.size + 1, 1, none⟩) (by first | omega | (simp; done) | (simp; omega))
  have g1r := hb.frozen (p := ⟨w.heap.size + 1, 1, none⟩) (by first | omega | (simp; done) | (simp; omega))
  have c2r := hb.cell (p := ⟨w.heap.size + 1, 2, none⟩) (by first | omega | (simp; done) | (simp; omega))
  have g2r := hb.frozen (p := ⟨w.heap.size + 1, 2, none⟩) (by first | omega | (simp; done) | (simp; omega))
  simp [go_sem] at c0r g0r c1r g1r c2r g2r
  clear hb g0a g1a g2a
  go_wp2_with (fail)
  have HC : Hid (Cells9 w.heap.size w.heap.size (w.heap.size + 1) x y z x y z W0) := Lib.hid ⟨⟨by omega, by omega, hz⟩, ⟨c0a, c1a, c2a⟩, ⟨c0a, c1a, c2a⟩, ⟨c0r, c1r, c2r⟩, ⟨g0r, g1r, g2r⟩⟩
  clear c0a c1a c2a c0r c1r c2r g0r g1r g2r
  obtain ⟨R, hR⟩ : ∃ R, R = w.heap.size + 1 := ⟨_, rfl⟩
  obtain ⟨A, hA⟩ : ∃ A, A = w.heap.size := ⟨_, rfl⟩
  have hAR : A ≠ R := by omega
  have hRw : w.heap.size ≤ R := by omega
  rw [← hR, ← hA] at HC ⊢
  clear hA hR hz
  have hBd : Below W0.heap.size W0 W0.drew := (Below.refl _ _).drew
  obtain ⟨a0, a1, a2, _, _, _, a6, a7, a8, a9, aa, ab⟩ := HC.out.at hBd
  go_region_held3 (fun w' => w'.cell? ⟨A, 0, none⟩ = some (.int .i64 x) ∧ w'.cell? ⟨A, 1, none⟩ = some (.int .i64 y) ∧ w'.cell? ⟨A, 2, none⟩ = some (.int .i64 z)) (first | exact ⟨by assumption, by assumption, by assumption⟩ | (refine ⟨?_, ?_, ?_⟩ <;> simp [go_sem, *]; done) | go_keep) (first | (go_at_call 91; (with_reducible refine (fx.out _).mono ?_); rintro e w1 ⟨rfl, h1⟩; have b1 : Below W0.heap.size W0 w1 := below_step (by repeat (first | exact Below.refl _ _ | assumption | refine below_drewN ?_ _ | refine Below.drew ?_ | refine Below.alloc ?_ (by first | omega | (simp; done) | (simp; omega)) _ | refine Below.setCell ?_ (by first | (simp; done) | (simp; omega)) _)) h1; obtain ⟨a0, a1, a2, _, _, _, a6, a7, a8, a9, aa, ab⟩ := HC.out.at b1; clear h1) | (go_at_call 91; (with_reducible refine (fy.out _).mono ?_); rintro e w1 ⟨rfl, h1⟩; have b1 : Below W0.heap.size W0 w1 := below_step (by repeat (first | exact Below.refl _ _ | assumption | refine below_drewN ?_ _ | refine Below.drew ?_ | refine Below.alloc ?_ (by first | omega | (simp; done) | (simp; omega)) _ | refine Below.setCell ?_ (by first | (simp; done) | (simp; omega)) _)) h1; obtain ⟨a0, a1, a2, _, _, _, a6, a7, a8, a9, aa, ab⟩ := HC.out.at b1; clear h1) | (go_at_call 91; (with_reducible refine (fz.out _).mono ?_); rintro e w1 ⟨rfl, h1⟩; have b1 : Below W0.heap.size W0 w1 := below_step (by repeat (first | exact Below.refl _ _ | assumption | refine below_drewN ?_ _ | refine Below.drew ?_ | refine Below.alloc ?_ (by first | omega | (simp; done) | (simp; omega)) _ | refine Below.setCell ?_ (by first | (simp; done) | (simp; omega)) _)) h1; obtain ⟨a0, a1, a2, _, _, _, a6, a7, a8, a9, aa, ab⟩ := HC.out.at b1; clear h1))
  have hB1 : Below w.heap.size w w1 := below_step hB0 b1
  clear hBd HC fx fy fz
  go_wp2
  exact bodyPost_ret (v := (.agg #[.int .i64 X, .int .i64 Y, .int .i64 Z])) (by simp [results, Try.results37, go_sem, a6, a7, a8]) rfl ⟨rfl, (by repeat (first | exact Below.refl _ _ | assumption | refine below_drewN ?_ _ | refine Below.drew ?_ | refine Below.alloc ?_ (by first | omega | (simp; done) | (simp; omega)) _ | refine Below.setCell ?_ (by first | (simp; done) | (simp; omega)) _))⟩

theorem RVUnit_any (x y z : Int) (s : Nat) (hx : in64 x) (hy : in64 y) (hz : in64 z) (s1 : (s : Int) * s ≤ x * x + y * y + z * z) (s2 : x * x + y * y + z * z < ((s : Int) + 1) * (s + 1)) (w : World) :
    Calls Try.prog 37 #[(.agg #[.int .i64 x, .int .i64 y, .int .i64 z])] w fun e w' => e = .returned (.agg #[.int .i64 (unitF x (min (s : Int) 9223372036854775807)), .int .i64 (unitF y (min (s : Int) 9223372036854775807)), .int .i64 (unitF z (min (s : Int) 9223372036854775807))]) ∧ Below w.heap.size w w' := by
  have z0 : min (s : Int) 9223372036854775807 = 0 → x = 0 ∧ y = 0 ∧ z = 0 := zero_of_root x y z s s2
  have ln := fun w => RVLength_any x y z s hx hy hz s1 s2 w
  obtain ⟨n, hn⟩ : ∃ n, n = min (s : Int) 9223372036854775807 := ⟨_, rfl⟩
  rw [← hn] at z0 ln ⊢
  by_cases h0 : n = 0
  · obtain ⟨rfl, rfl, rfl⟩ := z0 h0
    rw [h0] at ln ⊢
    exact RVUnit_zero w ln
  · exact RVUnit_core x y z n _ _ _ w (by simpa using h0) ln (fun w => rdivU_any x _ hx (by omega) (by omega) (fun h => (z0 h).1) w) (fun w => rdivU_any y _ hy (by omega) (by omega) (fun h => (z0 h).2.1) w) (fun w => rdivU_any z _ hz (by omega) (by omega) (fun h => (z0 h).2.2) w)

theorem VToward_core (x y z a b c X Y Z : Int) (w : World)
    (ea : Hid (∀ w, Calls Try.prog 79 #[.int .i64 x, .int .i64 y, .int .i64 z, .func (.func 92) #[] #[]] w fun e w' => e = .returned (.agg #[.int .i64 a, .int .i64 b, .int .i64 c]) ∧ Below w.heap.size w w'))
    (un : Hid (∀ w, Calls Try.prog 36 #[(.agg #[.int .i64 a, .int .i64 b, .int .i64 c])] w fun e w' => e = .returned (.agg #[.int .i64 X, .int .i64 Y, .int .i64 Z]) ∧ Below w.heap.size w w')) :
    Calls Try.prog 38 #[(.agg #[.int .i64 x, .int .i64 y, .int .i64 z])] w fun e w' => e = .returned (.agg #[.int .i64 X, .int .i64 Y, .int .i64 Z]) ∧ Below w.heap.size w w' := by
  go_enter Try.func38, Try.ntmps38
  go_wp2_with (fail); go_at_call 79; refine (ea.out _).mono ?_; rintro e w1 ⟨rfl, hb⟩
  have hB : Below w.heap.size w w1 := below_step (by repeat (first | exact Below.refl _ _ | assumption | refine below_drewN ?_ _ | refine Below.drew ?_ | refine Below.alloc ?_ (by first | omega | (simp; done) | (simp; omega)) _ | refine Below.setCell ?_ (by first | (simp; done) | (simp; omega)) _)) hb
  have hz : w.heap.size + 1 < w1.heap.size := (by have := hb.size; (try simp at this); omega)
  have hz0 : w.heap.size < w1.heap.size := (by omega)
  have c0r := hb.cell (p := ⟨w.heap.size + 1, 0, none⟩) (by first | omega | (simp; done) | (simp; omega))
  have g0r := hb.frozen (p := ⟨w.heap.size + 1, 0, none⟩) (by first | omega | (simp; done) | (simp; omega))
  have c1r := hb.cell (p := ⟨w.heap.size + 1, 1, none⟩) (by first | omega | (simp; done) | (simp; omega))
  have g1r := hb.frozen (p := ⟨w.heap.size + 1, 1, none⟩) (by first | omega | (simp; done) | (simp; omega))
  have c2r := hb.cell (p := ⟨w.heap.size + 1, 2, none⟩) (by first | omega | (simp; done) | (simp; omega))
  have g2r := hb.frozen (p := ⟨w.heap.size + 1, 2, none⟩) (by first | omega | (simp; done) | (simp; omega))
  simp [go_sem] at c0r g0r c1r g1r c2r g2r
  clear hb
  go_wp2_with (fail); go_at_call 36; refine (un.out _).mono ?_; rintro e w2 ⟨rfl, hb⟩
  have hB2 : Below w.heap.size w w2 := below_step (by repeat (first | exact Below.refl _ _ | assumption | refine below_drewN ?_ _ | refine Below.drew ?_ | refine Below.alloc ?_ (by first | omega | (simp; done) | (simp; omega)) _ | refine Below.setCell ?_ (by first | (simp; done) | (simp; omega)) _)) hb
  have hz2 : w.heap.size + 1 < w2.heap.size := (by have := hb.size; (try simp at this); omega)
  have c0s := hb.cell (p := ⟨w.heap.size + 1, 0, none⟩) (by first | omega | (simp; done) | (simp; omega))
  have g0s := hb.frozen (p := ⟨w.heap.size + 1, 0, none⟩) (by first | omega | (simp; done) | (simp; omega))
  have c1s := hb.cell (p := ⟨w.heap.size + 1, 1, none⟩) (by first | omega | (simp; done) | (simp; omega))
  have g1s := hb.frozen (p := ⟨w.heap.size + 1, 1, none⟩) (by first | omega | (simp; done) | (simp; omega))
  have c2s := hb.cell (p := ⟨w.heap.size + 1, 2, none⟩) (by first | omega | (simp; done) | (simp; omega))
  have g2s := hb.frozen (p := ⟨w.heap.size + 1, 2, none⟩) (by first | omega | (simp; done) | (simp; omega))
  simp [go_sem, c0r, c1r, c2r, g0r, g1r, g2r, hz] at c0s g0s c1s g1s c2s g2s
  clear hb
  go_wp2
  exact bodyPost_ret (v := (.agg #[.int .i64 X, .int .i64 Y, .int .i64 Z])) (by simp [results, Try.results38, go_sem, c0s, c1s, c2s]) rfl ⟨rfl, (by repeat (first | exact Below.refl _ _ | assumption | refine below_drewN ?_ _ | refine Below.drew ?_ | refine Below.alloc ?_ (by first | omega | (simp; done) | (simp; omega)) _ | refine Below.setCell ?_ (by first | (simp; done) | (simp; omega)) _))⟩

/-- the sum of the squares of a place's parts -/
def sumQ (x y z : Int) : Int := partF x * partF x + partF y * partF y + partF z * partF z
theorem sq30 (a : Int) (h : -1073741824 ≤ a ∧ a ≤ 1073741824) : 0 ≤ a * a ∧ a * a ≤ 1152921504606846976 := by
  have h1 : (a.natAbs : Int) ≤ 1073741824 := by omega
  have h2 := abs_sq a
  have h3 := Int.mul_le_mul h1 h1 (by omega) (by omega)
  have h4 : 0 ≤ (a.natAbs : Int) * a.natAbs := Int.mul_nonneg (by omega) (by omega)
  omega
theorem sumQ_bd (x y z : Int) : 0 ≤ sumQ x y z ∧ sumQ x y z ≤ 3458764513820540928 := by
  have h1 := sq30 _ (partF_bd x)
  have h2 := sq30 _ (partF_bd y)
  have h3 := sq30 _ (partF_bd z)
  unfold sumQ
  omega

/-- vec.Toward; s: the root of the sum of squares times 2^64 -/
theorem VToward_any (x y z : Int) (s : Nat) (s1 : (s : Int) * s ≤ sumQ x y z * 18446744073709551616) (s2 : sumQ x y z * 18446744073709551616 < ((s : Int) + 1) * (s + 1)) (w : World) :
    Calls Try.prog 38 #[(.agg #[.int .i64 x, .int .i64 y, .int .i64 z])] w fun e w' => e = .returned (.agg #[.int .i64 (unitF (partF x * 4294967296) (s : Int)), .int .i64 (unitF (partF y * 4294967296) (s : Int)), .int .i64 (unitF (partF z * 4294967296) (s : Int))]) ∧ Below w.heap.size w w' := by
  have bx := partF_bd x
  have by' := partF_bd y
  have bz := partF_bd z
  have bq := sumQ_bd x y z
  have e : sumQ x y z * 18446744073709551616 = (partF x * 4294967296) * (partF x * 4294967296) + (partF y * 4294967296) * (partF y * 4294967296) + (partF z * 4294967296) * (partF z * 4294967296) := by unfold sumQ; grind
  have sm := root63' _ s (show sumQ x y z * 18446744073709551616 < _ by omega) s1
  have un := fun w => VUnit_any (partF x * 4294967296) (partF y * 4294967296) (partF z * 4294967296) s (by unfold in64; omega) (by unfold in64; omega) (by unfold in64; omega) (e ▸ s1) (e ▸ s2) w
  rw [Int.min_eq_left sm] at un
  exact VToward_core x y z _ _ _ _ _ _ w (fun w => eachToward_any x y z w) un
end Go.Proofs.Ytalclbngpimajaa
