/- umbralaw01.WideSquare: for any wide number: the root's square is not above it, that of the next number is; the arguments are left alone. -/
import Derived.Test.YtmpbnmhbebhpeaaWW
import Derived.Deep.RegionHeld3
import Derived.BigGuardPart
namespace Go.Proofs.Ytmpbnmhbebhpeaa
set_option linter.unusedVariables false
open Go.RowKit
attribute [local go_sem] setCell_twice setCell_pair

theorem exists_sqrt (z : Int) (z0 : 0 ≤ z) : ∃ s : Nat, (s : Int) * s ≤ z ∧ z < ((s : Int) + 1) * (s + 1) := by
  obtain ⟨n, rfl⟩ := Int.eq_ofNat_of_zero_le z0
  induction n with
  | zero => exact ⟨0, by simp, by simp⟩
  | succ n ih =>
    obtain ⟨s, h1, h2⟩ := ih (by omega)
    by_cases h : ((s : Int) + 1) * (s + 1) ≤ (n + 1 : Nat)
    · refine ⟨s + 1, by simpa using h, ?_⟩
      have : ((s : Int) + 1) * (s + 1) + ((s : Int) + 1) + ((s : Int) + 1) + 1 = ((s + 1 : Nat) + 1 : Int) * ((s + 1 : Nat) + 1) := by
        rw [Int.natCast_add]; grind
      omega
    · exact ⟨s, by omega, by omega⟩

set_option maxHeartbeats 1000000 in
theorem Square_core (h l s s1 H L H2 L2 : Int) (w : World) (h0 : 0 ≤ h) (h1 : h ≤ 9223372036854775807) (s0 : 0 ≤ s) (hs : s < 18446744073709551615) (hs1 : s + 1 = s1)
    (hA : H < h ∨ H = h ∧ L ≤ l) (hB : h < H2 ∨ H2 = h ∧ l < L2)
    (sq : Hid (∀ w, Calls Try.prog 36 #[.agg #[.int .i64 h, .int .u64 l]] w fun e w' => e = .returned (.int .u64 s) ∧ Below w.heap.size w w'))
    (m1 : Hid (∀ w, Calls Try.prog 37 #[.int .u64 s, .int .u64 s] w fun e w' => e = .returned (.tuple #[.int .u64 H, .int .u64 L]) ∧ w = w'))
    (m2 : Hid (∀ w, Calls Try.prog 37 #[.int .u64 s1, .int .u64 s1] w fun e w' => e = .returned (.tuple #[.int .u64 H2, .int .u64 L2]) ∧ w = w'))
    (wk : Hid (∀ w, Calls Try.prog 18 #[] w fun e w' => e = .returned (.bool true) ∧ Below w.heap.size w w')) :
    Calls Try.prog 11 #[.agg #[.int .i64 h, .int .u64 l]] w fun e w' => e = .returned (.bool true) ∧ Below w.heap.size w w' := by
  have gA : H ≤ h := by omega
  have gB : h ≤ H2 := by omega
  have eA : (H == h) = true ∧ L ≤ l ∨ (H == h) = false := by
    rcases hA with hA | ⟨hA, hA'⟩
    · exact .inr (by simp; omega)
    · exact .inl ⟨by simpa using hA, hA'⟩
  have eB : (H2 == h) = true ∧ H2 ≤ h ∧ l < L2 ∨ h < H2 := by
    rcases hB with hB | ⟨hB, hB'⟩
    · exact .inr hB
    · exact .inl ⟨by simpa using hB, by omega, hB'⟩
  clear hA hB
  rcases eA with ⟨hA, hA'⟩ | hA <;> rcases eB with ⟨hB, hB2, hB'⟩ | hB
  all_goals
    go_enter Try.func11, Try.ntmps11
    go_wp2_with (first | (go_at_call 36; refine (sq.out _).mono ?_; rintro e w1 ⟨rfl, hb⟩; have hz : w.heap.size < w1.heap.size := (by have := hb.size; (try simp at this); omega); have c00 := hb.cell (p := ⟨w.heap.size, 0, none⟩) (by first | omega | (simp; done) | (simp; omega)); have f00 := hb.frozen (p := ⟨w.heap.size, 0, none⟩) (by first | omega | (simp; done) | (simp; omega)); have c01 := hb.cell (p := ⟨w.heap.size, 1, none⟩) (by first | omega | (simp; done) | (simp; omega)); have f01 := hb.frozen (p := ⟨w.heap.size, 1, none⟩) (by first | omega | (simp; done) | (simp; omega)); simp [go_sem] at c00 f00 c01 f01; have hb' : Below w.heap.size w w1 := below_step (by repeat (first | exact Below.refl _ _ | assumption | refine below_drewN ?_ _ | refine Below.drew ?_ | refine Below.alloc ?_ (by first | omega | (simp; done) | (simp; omega)) _ | refine Below.setCell ?_ (by first | (simp; done) | (simp; omega)) _)) hb) | (go_at_call 37; (with_reducible refine (m1.out _).mono ?_); rintro e w2 ⟨rfl, rfl⟩) | (go_at_call 37; (with_reducible refine (m2.out _).mono ?_); rintro e w2 ⟨rfl, rfl⟩) | (go_at_call 18; refine (wk.out _).mono ?_; rintro e w3 ⟨rfl, hc⟩))
    go_ret
    exact ⟨rfl, below_step hb' hc⟩

theorem Square_neg (h l s : Int) (w : World) (h0 : h < 0) (hs : s = 0)
    (sq : Hid (∀ w, Calls Try.prog 36 #[.agg #[.int .i64 h, .int .u64 l]] w fun e w' => e = .returned (.int .u64 0) ∧ Below w.heap.size w w'))
    (wk : Hid (∀ w, Calls Try.prog 18 #[] w fun e w' => e = .returned (.bool true) ∧ Below w.heap.size w w')) :
    Calls Try.prog 11 #[.agg #[.int .i64 h, .int .u64 l]] w fun e w' => e = .returned (.bool true) ∧ Below w.heap.size w w' := by
  go_enter Try.func11, Try.ntmps11
  go_wp2_with (first | (go_at_call 36; refine (sq.out _).mono ?_; rintro e w1 ⟨rfl, hb⟩; have hz : w.heap.size < w1.heap.size := (by have := hb.size; (try simp at this); omega); have c00 := hb.cell (p := ⟨w.heap.size, 0, none⟩) (by first | omega | (simp; done) | (simp; omega)); have f00 := hb.frozen (p := ⟨w.heap.size, 0, none⟩) (by first | omega | (simp; done) | (simp; omega)); have c01 := hb.cell (p := ⟨w.heap.size, 1, none⟩) (by first | omega | (simp; done) | (simp; omega)); have f01 := hb.frozen (p := ⟨w.heap.size, 1, none⟩) (by first | omega | (simp; done) | (simp; omega)); simp [go_sem] at c00 f00 c01 f01; have hb' : Below w.heap.size w w1 := below_step (by repeat (first | exact Below.refl _ _ | assumption | refine below_drewN ?_ _ | refine Below.drew ?_ | refine Below.alloc ?_ (by first | omega | (simp; done) | (simp; omega)) _ | refine Below.setCell ?_ (by first | (simp; done) | (simp; omega)) _)) hb) | (go_at_call 18; refine (wk.out _).mono ?_; rintro e w3 ⟨rfl, hc⟩))
  go_ret
  exact ⟨rfl, below_step hb' hc⟩

theorem Square_walk (h l : Int) (w : World) (h0 : -9223372036854775808 ≤ h) (h1 : h ≤ 9223372036854775807) (l0 : 0 ≤ l) (l1 : l ≤ 18446744073709551615) :
    Calls Try.prog 11 #[.agg #[.int .i64 h, .int .u64 l]] w fun e w' => e = .returned (.bool true) ∧ Below w.heap.size w w' := by
  have eh := hi_of h l l0 (by omega)
  have el := lo_of h l l0 (by omega)
  generalize hz : h * 18446744073709551616 + l = z at *
  by_cases hn : h < 0
  · have sq := fun w => Sqrt_none z (by omega) w
    rw [eh, el] at sq
    exact Square_neg h l 0 w hn rfl sq (fun w => works_any w)
  · obtain ⟨s, s1, s2⟩ := exists_sqrt z (by omega)
    have sq := fun w => Sqrt_any z s (by omega) (by omega) s1 s2 w
    rw [eh, el] at sq
    have hs : (s : Int) < 18446744073709551615 := by
      refine Int.not_le.1 fun h => ?_
      have : (18446744073709551615 : Int) * 18446744073709551615 ≤ (s : Int) * s := Int.mul_le_mul h h (by omega) (by omega)
      omega
    refine Square_core h l s _ _ _ _ _ w (by omega) h1 (by omega) hs rfl ?_ ?_ sq (fun w => Mul64_any s s (by omega) (by omega) (by omega) (by omega) w) (fun w => Mul64_any (s + 1) (s + 1) (by omega) (by omega) (by omega) (by omega) w) (fun w => works_any w)
    · generalize (s : Int) * s = m at *
      unfold hi lo
      omega
    · generalize ((s : Int) + 1) * (s + 1) = m at *
      unfold hi lo
      omega
end Go.Proofs.Ytmpbnmhbebhpeaa
