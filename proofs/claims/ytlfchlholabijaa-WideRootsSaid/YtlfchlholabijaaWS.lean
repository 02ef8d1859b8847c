/- wide.Sqrt: the root, bit by bit. -/
import Derived.Test.YtlfchlholabijaaWJ
import Derived.LoopTactic
namespace Go.Proofs.Ytlfchlholabijaa
set_option linter.unusedVariables false
set_option maxRecDepth 2000
open Go.RowKit
attribute [local go_sem] setCell_twice setCell_pair

/-- after k bits: the root so far is R -/
structure Sq (z : Int) (k R : Nat) : Prop where
  low : (R : Int) * R ≤ z
  top : z < ((R : Int) + (2 ^ (64 - k) : Nat)) * ((R : Int) + (2 ^ (64 - k) : Nat))
  dvd : 2 ^ (64 - k) ∣ R
  fit : R + 2 ^ (64 - k) ≤ 18446744073709551616

theorem Sq.start (z : Int) (z0 : 0 ≤ z) (z1 : z < 170141183460469231731687303715884105728) : Sq z 0 0 :=
  ⟨by simpa using z0, by simp; omega, Nat.dvd_zero _, by decide⟩

theorem pow_next (k : Nat) (hk : k < 64) : 2 ^ (64 - k) = 2 * 2 ^ (63 - k) ∧ 2 ^ (64 - (k + 1)) = 2 ^ (63 - k) := by
  refine ⟨?_, ?_⟩
  · rw [show 64 - k = (63 - k) + 1 by omega, Nat.pow_succ, Nat.mul_comm]
  · rw [show 64 - (k + 1) = 63 - k by omega]

theorem Sq.yes {z : Int} {k R : Nat} (h : Sq z k R) (hk : k < 64) (hn : ((R + 2 ^ (63 - k) : Nat) : Int) * (R + 2 ^ (63 - k) : Nat) ≤ z) : Sq z (k + 1) (R + 2 ^ (63 - k)) := by
  obtain ⟨low, top, dvd, fit⟩ := h
  obtain ⟨e1, e2⟩ := pow_next k hk
  rw [e1] at top dvd fit
  constructor <;> rw [e2] at *
  · exact hn
  · generalize 2 ^ (63 - k) = p at *
    rw [show ((R + p : Nat) : Int) + (p : Nat) = (R : Int) + ((2 * p : Nat) : Int) by omega]
    exact top
  · exact Nat.dvd_add (Nat.dvd_trans (Nat.dvd_mul_left _ 2) dvd) (Nat.dvd_refl _)
  · omega

theorem Sq.no {z : Int} {k R : Nat} (h : Sq z k R) (hk : k < 64) (hn : ¬ ((R + 2 ^ (63 - k) : Nat) : Int) * (R + 2 ^ (63 - k) : Nat) ≤ z) : Sq z (k + 1) R := by
  obtain ⟨low, top, dvd, fit⟩ := h
  obtain ⟨e1, e2⟩ := pow_next k hk
  rw [e1] at top dvd fit
  constructor <;> rw [e2] at *
  · exact low
  · generalize 2 ^ (63 - k) = p at *
    rw [show (R : Int) + (p : Nat) = ((R + p : Nat) : Int) by omega]
    omega
  · exact Nat.dvd_trans (Nat.dvd_mul_left _ 2) dvd
  · omega

theorem Sq.or {z : Int} {k R : Nat} (h : Sq z k R) (hk : k < 64) : bits .or .u64 (R : Int) (IntKind.u64.wrap (2 ^ (63 - k))) = ((R + 2 ^ (63 - k) : Nat) : Int) ∧ R + 2 ^ (63 - k) < 18446744073709551616 := by
  obtain ⟨low, top, ⟨a, ha⟩, fit⟩ := h
  obtain ⟨e1, e2⟩ := pow_next k hk
  have hp : 0 < 2 ^ (63 - k) := Nat.two_pow_pos _
  have hp2 : 2 ^ (63 - k) < 18446744073709551616 := by omega
  have e : IntKind.u64.wrap (2 ^ (63 - k)) = ((2 ^ (63 - k) : Nat) : Int) := by
    rw [show ((2 : Int) ^ (63 - k)) = ((2 ^ (63 - k) : Nat) : Int) by simp, IntKind.wrap_u64]; omega
  refine ⟨?_, by omega⟩
  rw [e, bits_or_u64_nat R _ (by omega) hp2]
  congr 1
  rw [ha, ← Nat.two_pow_add_eq_or_of_lt]
  omega

theorem Sq.done {z : Int} {R s : Nat} (h : Sq z 64 R) (h1 : (s : Int) * s ≤ z) (h2 : z < ((s : Int) + 1) * (s + 1)) : R = s := by
  obtain ⟨low, top, dvd, fit⟩ := h
  simp only [Nat.sub_self, Nat.pow_zero] at top
  refine Nat.le_antisymm (Nat.not_lt.1 fun hq => ?_) (Nat.not_lt.1 fun hq => ?_)
  · have : ((s : Int) + 1) * (s + 1) ≤ (R : Int) * R := Int.mul_le_mul (by omega) (by omega) (by omega) (by omega)
    omega
  · have : ((R : Int) + (1 : Nat)) * (R + (1 : Nat)) ≤ (s : Int) * s := Int.mul_le_mul (by omega) (by omega) (by omega) (by omega)
    omega

set_option maxHeartbeats 1000000 in
/-- Sqrt: the root of what is not below 0 -/
theorem Sqrt_any (z : Int) (s : Nat) (z0 : 0 ≤ z) (z1 : z < 170141183460469231731687303715884105728) (s1 : (s : Int) * s ≤ z) (s2 : z < ((s : Int) + 1) * (s + 1)) (w : World) :
    Calls Try.prog 14 #[(.agg #[.int .i64 (hi (z)), .int .u64 (lo (z))])] w fun e w' => e = .returned (.int .u64 s) ∧ Below w.heap.size w w' := by
  have h0 : 0 ≤ hi z := by unfold hi; omega
  have S1 := Lib.hid s1; clear s1
  have S2 := Lib.hid s2; clear s2
  have Z0 := Lib.hid z0; clear z0
  have Z1 := Lib.hid z1; clear z1
  go_enter Try.func14, Try.ntmps14
  go_wp2
  go_loopw [3, 9] (fun x i wr => ∃ (k R : Nat), k ≤ 64 ∧ i = .int .i64 k ∧ x = .int .u64 R ∧ Hid (Sq z k R) ∧ R < 18446744073709551616 ∧ Below (w.heap.size + 1) (w.alloc (.cells #[.int .i64 (hi z), .int .u64 (lo z)] 24)) wr) (fun _ i _ => (64 - (intOf i).toNat))
  case atStart => exact ⟨0, 0, by omega, rfl, rfl, Sq.start z Z0.out Z1.out, by omega, Below.refl _ _⟩
  case round =>
    obtain ⟨k, R, hk, rfl, rfl, hs, hR, hb⟩ := hrel
    have c0 := hb.cell (p := ⟨w.heap.size, 0, none⟩) (by simp)
    have c1 := hb.cell (p := ⟨w.heap.size, 1, none⟩) (by simp)
    simp at c0 c1
    have hz : w.heap.size + 1 ≤ wr.heap.size := by have := hb.size; simpa using this
    by_cases hlt : k < 64
    · obtain ⟨hor, hN⟩ := hs.out.or hlt
      have yes := Lib.hid (hs.out.yes hlt)
      have no := Lib.hid (hs.out.no hlt)
      clear hs
      generalize R + 2 ^ (63 - k) = N at *
      have sf := fun w => squareFits_any (N : Int) z (by omega) (by omega) Z0.out Z1.out w
      by_cases ht : (N : Int) * N ≤ z
      · rw [decide_eq_true ht] at sf
        have nx : Hid _ := yes.out ht
        have SF := Lib.hid sf
        clear yes no sf ht
        go_wp2_with (go_at_call 28; refine (SF.out _).mono ?_; rintro e w1 ⟨rfl, hc⟩; have hd := hb.trans (hc.mono hz))
        go_roundw
        case rel => exact ⟨k + 1, N, by omega, by go_num, rfl, nx, hN, hd⟩
        case measure => simp [intOf]; omega
      · rw [decide_eq_false ht] at sf
        have nx : Hid _ := no.out ht
        have SF := Lib.hid sf
        clear yes no sf ht
        go_wp2_with (go_at_call 28; refine (SF.out _).mono ?_; rintro e w1 ⟨rfl, hc⟩; have hd := hb.trans (hc.mono hz))
        go_roundw
        case rel => exact ⟨k + 1, R, by omega, by go_num, rfl, nx, hR, hd⟩
        case measure => simp [intOf]; omega
    · obtain rfl : k = 64 := by omega
      obtain rfl := hs.out.done S1.out S2.out
      clear hs hlt
      go_wp2
      go_ret
      exact ⟨rfl, ((Below.refl _ _).alloc (Nat.le_refl _) _).trans (hb.mono (by omega))⟩

theorem Sqrt_none (z : Int) (z0 : z < 0) (w : World) :
    Calls Try.prog 14 #[(.agg #[.int .i64 (hi (z)), .int .u64 (lo (z))])] w fun e w' => e = .returned (.int .u64 0) ∧ Below w.heap.size w w' := by
  have h0 : hi z < 0 := by unfold hi; omega
  clear z0
  go_enter Try.func14, Try.ntmps14
  go_wp2
  go_ret
  exact ⟨rfl, (by repeat (first | exact Below.refl _ _ | assumption | refine below_drewN ?_ _ | refine Below.drew ?_ | refine Below.alloc ?_ (by first | omega | (simp; done) | (simp; omega)) _ | refine Below.setCell ?_ (by first | (simp; done) | (simp; omega)) _))⟩
end Go.Proofs.Ytlfchlholabijaa
