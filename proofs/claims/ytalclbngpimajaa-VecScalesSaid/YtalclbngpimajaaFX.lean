/- The document's answers for package fix (umbraref02): roots, products of any numbers, what lies between. -/
import Derived.Test.YtalclbngpimajaaFV
namespace Go.Proofs.Ytalclbngpimajaa
set_option linter.unusedVariables false
set_option maxRecDepth 2000
open Go.RowKit
attribute [local go_sem] setCell_twice setCell_pair

set_option maxHeartbeats 1000000 in
theorem RRoot_any (z : Int) (s : Nat) (z0 : 0 ≤ z) (z1 : z < 170141183460469231731687303715884105728) (s1 : (s : Int) * s ≤ z) (s2 : z < ((s : Int) + 1) * (s + 1)) (w : World) :
    Calls Try.prog 88 #[.int .u64 (hi z), .int .u64 (lo z)] w fun e w' => e = .returned (.int .u64 s) ∧ w = w' := by
  have S1 := Lib.hid s1; clear s1
  have S2 := Lib.hid s2; clear s2
  have Z0 := Lib.hid z0; clear z0
  have Z1 := Lib.hid z1; clear z1
  go_enter Try.func88, Try.ntmps88
  go_wp2
  go_loop [5, 6] (fun x i => ∃ (j R : Nat), j ≤ 64 ∧ i = .int .i64 ((j : Int) - 1) ∧ x = .int .u64 R ∧ Hid (Sq z (64 - j) R) ∧ R < 18446744073709551616) (fun _ i => (intOf i + 1).toNat)
  case atStart => exact ⟨64, 0, by omega, by go_num, rfl, Sq.start z Z0.out Z1.out, by omega⟩
  case round =>
    obtain ⟨j, R, hj, rfl, rfl, hs, hR⟩ := hrel
    by_cases hlt : j = 0
    · subst hlt
      obtain rfl := hs.out.done S1.out S2.out
      clear hs
      go_wp2
      go_ret
      exact ⟨rfl, rfl⟩
    · obtain ⟨n, rfl⟩ : ∃ n, j = n + 1 := ⟨j - 1, by omega⟩
      rw [show (((n + 1 : Nat) : Int) - 1) = n by omega]
      obtain ⟨hor, hN⟩ := hs.out.or (show 64 - (n + 1) < 64 by omega)
      have yes := Lib.hid (hs.out.yes (show 64 - (n + 1) < 64 by omega))
      have no := Lib.hid (hs.out.no (show 64 - (n + 1) < 64 by omega))
      clear hs
      rw [show 63 - (64 - (n + 1)) = n by omega] at *
      have hp : 2 ^ n < 18446744073709551616 := by have := Nat.zero_le R; omega
      have hsum : IntKind.u64.wrap ((R : Int) + IntKind.u64.wrap (2 ^ n)) = ((R + 2 ^ n : Nat) : Int) := by
        rw [show ((2 : Int) ^ n) = ((2 ^ n : Nat) : Int) by simp, IntKind.wrap_u64, IntKind.wrap_u64]
        clear hor yes no
        generalize 2 ^ n = p at *
        omega
      clear hor hp
      generalize R + 2 ^ n = N at *
      have ml := Lib.hid (fun w => Mul64_any (N : Int) (N : Int) (by omega) (by omega) (by omega) (by omega) w)
      have hz := hl z
      have hm := hl ((N : Int) * N)
      have bz := lo_bd z
      have bm := lo_bd ((N : Int) * N)
      by_cases ht : (N : Int) * N ≤ z
      · have nx : Hid _ := Lib.hid (yes.out ht)
        rw [show 64 - (n + 1) + 1 = 64 - n by omega] at nx
        clear yes no
        generalize (N : Int) * N = m at *
        have cs : hi m < hi z ∨ (hi m = hi z ∧ lo m ≤ lo z) := by omega
        generalize hi m = H at *; generalize lo m = L at *; generalize hi z = h at *; generalize lo z = l at *
        clear hz hm bz bm ht
        rcases cs with hA | ⟨rfl, hA⟩
        all_goals
          go_wp2_with (fail); go_at_call 107; refine (ml.out _).mono ?_; rintro e w1 ⟨rfl, rfl⟩
          go_wp2
          go_round
          case rel => exact ⟨n, N, by omega, by go_num, rfl, nx, hN⟩
          case measure => simp [intOf]
      · have nx : Hid _ := Lib.hid (no.out ht)
        rw [show 64 - (n + 1) + 1 = 64 - n by omega] at nx
        clear yes no
        generalize (N : Int) * N = m at *
        have cs : hi z < hi m ∨ (hi m = hi z ∧ lo z < lo m) := by omega
        generalize hi m = H at *; generalize lo m = L at *; generalize hi z = h at *; generalize lo z = l at *
        clear hz hm bz bm ht
        rcases cs with hA | ⟨rfl, hA⟩
        · have hb : (H == h) = false := by simp; omega
          have hc : h ≤ H := by omega
          go_wp2_with (fail); go_at_call 107; refine (ml.out _).mono ?_; rintro e w1 ⟨rfl, rfl⟩
          go_wp2
          go_round
          case rel => exact ⟨n, R, by omega, by go_num, rfl, nx, hR⟩
          case measure => simp [intOf]
        · go_wp2_with (fail); go_at_call 107; refine (ml.out _).mono ?_; rintro e w1 ⟨rfl, rfl⟩
          go_wp2
          go_round
          case rel => exact ⟨n, R, by omega, by go_num, rfl, nx, hR⟩
          case measure => simp [intOf]

theorem RLerp_any (a b t : Int) (ha : in64 a) (hb : in64 b) (ht : in64 t) (w : World) :
    Calls Try.prog 78 #[.int .i64 a, .int .i64 b, .int .i64 t] w fun e w' => e = .returned (.int .i64 (lerpF a b t)) ∧ w = w' := by
  have d := in64_sat (b - a)
  have sb := Lib.hid (fun w => RSub_any b a hb.1 hb.2 ha.1 ha.2 w)
  have tm := Lib.hid (fun w => RTimes_any (sat (b - a)) t d.1 d.2 ht.1 ht.2 w)
  have m := mulF_bd (sat (b - a)) t
  have tw := Lib.hid (fun w => Two_any a (mulF (sat (b - a)) t) ha.1 ha.2 m.1 m.2 w)
  clear d m
  go_enter Try.func78, Try.ntmps78
  go_wp2_with (fail); go_at_call 72; refine (sb.out _).mono ?_; rintro e w1 ⟨rfl, rfl⟩
  go_wp2_with (fail); go_at_call 75; refine (tm.out _).mono ?_; rintro e w1 ⟨rfl, rfl⟩
  go_wp2_with (fail); go_at_call 82; refine (tw.out _).mono ?_; rintro e w1 ⟨rfl, rfl⟩
  go_wp2_with (fail)
  go_ret
  exact ⟨rfl, rfl⟩
end Go.Proofs.Ytalclbngpimajaa
