/- math/bits.Div64: the walk. -/
import Derived.Test.YtlfchlholabijaaWB
import Derived.Test.YtlfchlholabijaaWDiv
import Derived.LoopTactic
namespace Go.Proofs.Ytlfchlholabijaa
set_option linter.unusedVariables false
set_option maxRecDepth 2000
open Go.RowKit

set_option maxHeartbeats 4000000 in
theorem div64_core (h l y s Y a b U L u1 u0 q r p Q1 V t1 t2 t3 q2 p2 r2 Q2 t4 t5 t6 R m : Int) (w : World)
    (hh : 1 ≤ h) (hy : h < y) (hy1 : y ≤ 18446744073709551615) (hl0 : 0 ≤ l) (hl : l ≤ 18446744073709551615) (s0 : 0 ≤ s) (s1 : s ≤ 63)
    (HZ : Hid (∀ w, Calls Try.prog 40 #[.int .u64 y] w fun e w' => e = .returned (.int .i64 s) ∧ w = w'))
    (K1 : Hid (Kn a b U u1 Q1)) (K2 : Hid (Kn a b V u0 Q2)) (S1 : Hid (Ks a U Q1 q r)) (S2 : Hid (Ks a V Q2 q2 r2))
    (a0 : 2147483648 ≤ a) (a1 : a ≤ 4294967295) (b0 : 0 ≤ b) (b1 : b ≤ 4294967295) (U0 : 0 ≤ U) (U1 : U ≤ 18446744073709551615) (V0 : 0 ≤ V) (V1 : V ≤ 18446744073709551615)
    (u10 : 0 ≤ u1) (u11 : u1 ≤ 4294967295) (u00 : 0 ≤ u0) (u01 : u0 ≤ 4294967295) (L0 : 0 ≤ L) (L1 : L ≤ 18446744073709551615) (Y0 : 0 ≤ Y) (Y1 : Y ≤ 18446744073709551615)
    (q0 : 0 ≤ q) (q1 : q ≤ 4294967297) (r0 : 0 ≤ r) (r1 : r ≤ 4294967295) (p0 : 0 ≤ p) (p1 : p ≤ U)
    (q20 : 0 ≤ q2) (q21 : q2 ≤ 4294967297) (r20 : 0 ≤ r2) (r21 : r2 ≤ 4294967295) (p20 : 0 ≤ p2) (p21 : p2 ≤ V)
    (Q10 : 0 ≤ Q1) (Q11 : Q1 ≤ 4294967295) (Q20 : 0 ≤ Q2) (Q21 : Q2 ≤ 4294967295) (R0 : 0 ≤ R) (R1 : R ≤ 18446744073709551615)
    (hY : IntKind.u64.wrap (y * 2 ^ s.toNat) = Y) (ha : Y / 4294967296 = a) (hb : bits .and .u64 Y 4294967295 = b)
    (hU : bits .or .u64 (IntKind.u64.wrap (h * 2 ^ s.toNat)) (l / 2 ^ (64 - s).toNat) = U)
    (hL : IntKind.u64.wrap (l * 2 ^ s.toNat) = L) (hu1 : L / 4294967296 = u1) (hu0 : bits .and .u64 L 4294967295 = u0)
    (hq : U / a = q) (hp : IntKind.u64.wrap (q * a) = p) (hr : U - p = r)
    (ht1 : IntKind.u64.wrap (U * 4294967296) = t1) (ht2 : IntKind.u64.wrap (t1 + u1) = t2) (ht3 : IntKind.u64.wrap (Q1 * Y) = t3) (hV : IntKind.u64.wrap (t2 - t3) = V)
    (hq2 : V / a = q2) (hp2 : IntKind.u64.wrap (q2 * a) = p2) (hr2 : V - p2 = r2)
    (ht4 : IntKind.u64.wrap (V * 4294967296) = t4) (ht5 : IntKind.u64.wrap (t4 + u0) = t5) (ht6 : IntKind.u64.wrap (Q2 * Y) = t6) (hR : IntKind.u64.wrap (t5 - t6) = R)
    (hm : R / 2 ^ s.toNat = m) :
    Calls Try.prog 37 #[.int .u64 h, .int .u64 l, .int .u64 y] w fun e w' => e = .returned (.tuple #[.int .u64 (Q1 * 4294967296 + Q2), .int .u64 m]) ∧ w = w' := by
  go_enter Try.func37, Try.ntmps37
  go_wp2_with (go_at_call 40; refine (HZ.out _).mono ?_; rintro e w' ⟨rfl, rfl⟩)
  go_loop [15, 16] (fun x z => ∃ q' r' : Int, Hid (Ks a U Q1 q' r') ∧ 0 ≤ q' ∧ q' ≤ 4294967297 ∧ 0 ≤ r' ∧ r' ≤ 4294967295 ∧ x = .int .u64 q' ∧ z = .int .u64 r') (fun x _ => (intOf x).toNat)
  case atStart => exact ⟨q, r, S1, q0, q1, r0, r1, by rw [hq], rfl⟩
  case round =>
    obtain ⟨q', r', hs, q0', q1', r0', r1', rfl, rfl⟩ := hrel
    clear hq hp hr S1
    by_cases big : 4294967296 ≤ q'
    · have gt := Kn.gt K1.out hs.out big
      by_cases over : 4294967296 ≤ r' + a
      · obtain rfl := Kn.last K1.out hs.out gt over
        clear hs
        go_wp2
        clear K1
        go_loop [18, 16] (fun x z => ∃ q' r' : Int, Hid (Ks a V Q2 q' r') ∧ 0 ≤ q' ∧ q' ≤ 4294967297 ∧ 0 ≤ r' ∧ r' ≤ 4294967295 ∧ x = .int .u64 q' ∧ z = .int .u64 r') (fun x _ => (intOf x).toNat)
        case atStart => exact ⟨q2, r2, S2, q20, q21, r20, r21, rfl, rfl⟩
        case round =>
          obtain ⟨q', r', hs, q0', q1', r0', r1', rfl, rfl⟩ := hrel
          clear hq2 hp2 hr2 S2
          by_cases big : 4294967296 ≤ q'
          · have gt := Kn.gt K2.out hs.out big
            by_cases over : 4294967296 ≤ r' + a
            · obtain rfl := Kn.last K2.out hs.out gt over
              clear hs
              go_wp2
              go_ret2
              exact ⟨rfl, rfl⟩
            · have nx : Hid _ := Kn.next K2.out hs.out gt (by omega)
              clear hs
              go_wp2
              go_round
              case rel => exact ⟨q' - 1, r' + a, nx, by omega, by omega, by omega, by omega, rfl, rfl⟩
              case measure => simp [intOf]; omega
          · have mb := mul_small q0' (by omega) b0 b1
            have tt := Kn.test K2.out hs.out
            obtain ⟨m', hm'⟩ : ∃ m', q' * b = m' := ⟨_, rfl⟩
            have hmw : IntKind.u64.wrap (q' * b) = m' := by rw [IntKind.wrap_u64, hm']; rw [hm'] at mb; omega
            rw [hm'] at mb tt
            have mb1 := mb.1
            have mb2 := mb.2
            clear hm' mb
            by_cases ht : r' * 4294967296 + u0 < m'
            · have gt := tt.1 ht
              clear tt
              by_cases over : 4294967296 ≤ r' + a
              · obtain rfl := Kn.last K2.out hs.out gt over
                clear hs
                go_wp2
                go_ret2
                exact ⟨rfl, rfl⟩
              · have nx : Hid _ := Kn.next K2.out hs.out gt (by omega)
                clear hs
                go_wp2
                go_round
                case rel => exact ⟨q' - 1, r' + a, nx, by omega, by omega, by omega, by omega, rfl, rfl⟩
                case measure => simp [intOf]; omega
            · have eq : q' = Q2 := by have := hs.out.ge; omega
              subst eq
              clear tt hs
              go_wp2
              go_ret2
              exact ⟨rfl, rfl⟩
      · have nx : Hid _ := Kn.next K1.out hs.out gt (by omega)
        clear hs
        go_wp2
        go_round
        case rel => exact ⟨q' - 1, r' + a, nx, by omega, by omega, by omega, by omega, rfl, rfl⟩
        case measure => simp [intOf]; omega
    · have mb := mul_small q0' (by omega) b0 b1
      have tt := Kn.test K1.out hs.out
      obtain ⟨m', hm'⟩ : ∃ m', q' * b = m' := ⟨_, rfl⟩
      have hmw : IntKind.u64.wrap (q' * b) = m' := by rw [IntKind.wrap_u64, hm']; rw [hm'] at mb; omega
      rw [hm'] at mb tt
      have mb1 := mb.1
      have mb2 := mb.2
      clear hm' mb
      by_cases ht : r' * 4294967296 + u1 < m'
      · have gt := tt.1 ht
        clear tt
        by_cases over : 4294967296 ≤ r' + a
        · obtain rfl := Kn.last K1.out hs.out gt over
          clear hs
          go_wp2
          clear K1
          go_loop [18, 16] (fun x z => ∃ q' r' : Int, Hid (Ks a V Q2 q' r') ∧ 0 ≤ q' ∧ q' ≤ 4294967297 ∧ 0 ≤ r' ∧ r' ≤ 4294967295 ∧ x = .int .u64 q' ∧ z = .int .u64 r') (fun x _ => (intOf x).toNat)
          case atStart => exact ⟨q2, r2, S2, q20, q21, r20, r21, rfl, rfl⟩
          case round =>
            obtain ⟨q', r', hs, q0', q1', r0', r1', rfl, rfl⟩ := hrel
            clear hq2 hp2 hr2 S2
            by_cases big : 4294967296 ≤ q'
            · have gt := Kn.gt K2.out hs.out big
              by_cases over : 4294967296 ≤ r' + a
              · obtain rfl := Kn.last K2.out hs.out gt over
                clear hs
                go_wp2
                go_ret2
                exact ⟨rfl, rfl⟩
              · have nx : Hid _ := Kn.next K2.out hs.out gt (by omega)
                clear hs
                go_wp2
                go_round
                case rel => exact ⟨q' - 1, r' + a, nx, by omega, by omega, by omega, by omega, rfl, rfl⟩
                case measure => simp [intOf]; omega
            · have mb := mul_small q0' (by omega) b0 b1
              have tt := Kn.test K2.out hs.out
              obtain ⟨m', hm'⟩ : ∃ m', q' * b = m' := ⟨_, rfl⟩
              have hmw : IntKind.u64.wrap (q' * b) = m' := by rw [IntKind.wrap_u64, hm']; rw [hm'] at mb; omega
              rw [hm'] at mb tt
              have mb1 := mb.1
              have mb2 := mb.2
              clear hm' mb
              by_cases ht : r' * 4294967296 + u0 < m'
              · have gt := tt.1 ht
                clear tt
                by_cases over : 4294967296 ≤ r' + a
                · obtain rfl := Kn.last K2.out hs.out gt over
                  clear hs
                  go_wp2
                  go_ret2
                  exact ⟨rfl, rfl⟩
                · have nx : Hid _ := Kn.next K2.out hs.out gt (by omega)
                  clear hs
                  go_wp2
                  go_round
                  case rel => exact ⟨q' - 1, r' + a, nx, by omega, by omega, by omega, by omega, rfl, rfl⟩
                  case measure => simp [intOf]; omega
              · have eq : q' = Q2 := by have := hs.out.ge; omega
                subst eq
                clear tt hs
                go_wp2
                go_ret2
                exact ⟨rfl, rfl⟩
        · have nx : Hid _ := Kn.next K1.out hs.out gt (by omega)
          clear hs
          go_wp2
          go_round
          case rel => exact ⟨q' - 1, r' + a, nx, by omega, by omega, by omega, by omega, rfl, rfl⟩
          case measure => simp [intOf]; omega
      · have eq : q' = Q1 := by have := hs.out.ge; omega
        subst eq
        clear tt hs
        go_wp2
        clear K1
        go_loop [18, 16] (fun x z => ∃ q' r' : Int, Hid (Ks a V Q2 q' r') ∧ 0 ≤ q' ∧ q' ≤ 4294967297 ∧ 0 ≤ r' ∧ r' ≤ 4294967295 ∧ x = .int .u64 q' ∧ z = .int .u64 r') (fun x _ => (intOf x).toNat)
        case atStart => exact ⟨q2, r2, S2, q20, q21, r20, r21, rfl, rfl⟩
        case round =>
          obtain ⟨q', r', hs, q0', q1', r0', r1', rfl, rfl⟩ := hrel
          clear hq2 hp2 hr2 S2
          by_cases big : 4294967296 ≤ q'
          · have gt := Kn.gt K2.out hs.out big
            by_cases over : 4294967296 ≤ r' + a
            · obtain rfl := Kn.last K2.out hs.out gt over
              clear hs
              go_wp2
              go_ret2
              exact ⟨rfl, rfl⟩
            · have nx : Hid _ := Kn.next K2.out hs.out gt (by omega)
              clear hs
              go_wp2
              go_round
              case rel => exact ⟨q' - 1, r' + a, nx, by omega, by omega, by omega, by omega, rfl, rfl⟩
              case measure => simp [intOf]; omega
          · have mb := mul_small q0' (by omega) b0 b1
            have tt := Kn.test K2.out hs.out
            obtain ⟨m', hm'⟩ : ∃ m', q' * b = m' := ⟨_, rfl⟩
            have hmw : IntKind.u64.wrap (q' * b) = m' := by rw [IntKind.wrap_u64, hm']; rw [hm'] at mb; omega
            rw [hm'] at mb tt
            have mb1 := mb.1
            have mb2 := mb.2
            clear hm' mb
            by_cases ht : r' * 4294967296 + u0 < m'
            · have gt := tt.1 ht
              clear tt
              by_cases over : 4294967296 ≤ r' + a
              · obtain rfl := Kn.last K2.out hs.out gt over
                clear hs
                go_wp2
                go_ret2
                exact ⟨rfl, rfl⟩
              · have nx : Hid _ := Kn.next K2.out hs.out gt (by omega)
                clear hs
                go_wp2
                go_round
                case rel => exact ⟨q' - 1, r' + a, nx, by omega, by omega, by omega, by omega, rfl, rfl⟩
                case measure => simp [intOf]; omega
            · have eq : q' = Q2 := by have := hs.out.ge; omega
              subst eq
              clear tt hs
              go_wp2
              go_ret2
              exact ⟨rfl, rfl⟩
end Go.Proofs.Ytlfchlholabijaa
