/- codec: number; Num, Int, Take. -/
import Derived.Test.YtbhdlpndmbhaiaaDK
import Derived.Lib.Hide
import Derived.LoopN
import Derived.LoopTactic
import Derived.Deep.Onto
import Derived.Laws.BitsAllLaws
namespace Go.Proofs.Ytbhdlpndmbhaiaa
set_option linter.unusedVariables false
set_option maxRecDepth 2000
set_option linter.unusedSimpArgs false
open Go.RowKit
attribute [local go_sem] nums_length
theorem or_step (A b : Int) (i : Nat) (hi : i < 8) (h0 : 0 ≤ A) (h1 : A < pw i) (hb : inB b) : bits .or .u64 A (IntKind.u64.wrap (b * pw i)) = A + pw i * b := by
  unfold inB at hb
  have hp := pw_pos i
  have hl : b * pw i < 18446744073709551616 := by
    have e : pw (i + 1) ≤ 18446744073709551616 := pw_le (by omega)
    rw [pw_succ] at e
    have : b * pw i ≤ 255 * pw i := Int.mul_le_mul_of_nonneg_right (by omega) (Int.le_of_lt hp)
    omega
  have h2 : 0 ≤ b * pw i := Int.mul_nonneg hb.1 (Int.le_of_lt hp)
  rw [IntWalk.u64_in _ (by omega)]
  obtain ⟨a, rfl⟩ := Int.eq_ofNat_of_zero_le h0
  obtain ⟨c, rfl⟩ := Int.eq_ofNat_of_zero_le hb.1
  have ep : pw i = ((2 ^ (8 * i) : Nat) : Int) := by rw [pw_two]; push_cast; rfl
  have hp2 : pw i ≤ 18446744073709551616 := pw_le (by omega)
  rw [ep] at h1 hl h2 hp2 ⊢
  have ha : a < 2 ^ (8 * i) := by
    have : (a : Int) < ((2 ^ (8 * i) : Nat) : Int) := h1
    exact Int.ofNat_lt.1 this
  have e2 : (c : Int) * ((2 ^ (8 * i) : Nat) : Int) = ((c * 2 ^ (8 * i) : Nat) : Int) := by push_cast; rfl
  have e3 : ((2 ^ (8 * i) : Nat) : Int) * (c : Int) = ((c * 2 ^ (8 * i) : Nat) : Int) := by rw [Int.mul_comm, e2]
  rw [e3]
  rw [e2] at hl h2 ⊢
  have hq : (c * 2 ^ (8 * i)) % 2 ^ (8 * i) = 0 := Nat.mul_mod_left _ _
  have hl2 : c * 2 ^ (8 * i) < 18446744073709551616 := Int.ofNat_lt.1 hl
  have ha2 : 2 ^ (8 * i) ≤ 18446744073709551616 := Int.ofNat_le.1 hp2
  generalize hm : c * 2 ^ (8 * i) = m at *
  have R := u64_or_nat a m (Nat.lt_of_lt_of_le ha ha2) hl2
  have J := nat_join (8 * i) m a hq ha
  refine R.trans ?_
  rw [Nat.or_comm, J]
  push_cast
  exact Int.add_comm _ _

set_option maxHeartbeats 4000000 in
theorem number_any (q : Option Addr) (n c : Nat) (f : Nat → Int) (hn : n ≤ 8) (hf : ∀ j, j < n → inB (f j)) (w : World) (hq : Byt w q n f) :
    Calls Try.prog 45 #[.slice q n c] w fun e w' => e = .returned (.int .u64 (leN f n)) ∧ w' = w := by
  have HQ := Lib.hid hq; have HF := Lib.hid hf; have HN := Lib.hid hn
  clear hq hf hn
  go_enter Try.func45, Try.ntmps45
  go_wp2_with (fail)
  go_loopw [3, 8] (fun av iv wr => ∃ (k : Nat) (A : Int), k ≤ n ∧ av = .int .u64 A ∧ Hid (A = leN f k) ∧ iv = .int .i64 k ∧ w = wr) (fun _ iv _ => (n - (intOf iv).toNat))
  case atStart => exact ⟨0, 0, Nat.zero_le _, rfl, Lib.hid rfl, rfl, rfl⟩
  case round =>
    obtain ⟨k, A, hk, rfl, HA, rfl, rfl⟩ := hrel
    by_cases hlt : k < n
    · obtain ⟨D, o, rfl, hH⟩ := HQ.out.resolve_left (by omega)
      have hcell : w.cell? ⟨D, o + k, none⟩ = some (.int .u8 (f k)) := hH.cell k _ (nums_at _ _ hlt)
      have hD := hH.lt
      have hki : (k : Int) < (n : Int) := by omega
      have k0 : (0 : Int) ≤ (k : Int) := by omega
      have wk : IntKind.i64.wrap ((k : Int) + 1) = (k : Int) + 1 := IntWalk.i64_in _ (by have := HN.out; omega)
      have w8 : IntKind.i64.wrap (8 * (k : Int)) = ((8 * k : Nat) : Int) := by rw [IntWalk.i64_in _ (by have := HN.out; omega)]; omega
      have k8 : (0 : Int) ≤ 8 * (k : Int) := by omega
      have k64 : 8 * (k : Int) ≤ 64 := by have := HN.out; omega
      have HLT := Lib.hid hlt
      have BX := HF.out k hlt
      obtain ⟨x, ex⟩ : ∃ x, f k = x := ⟨_, rfl⟩
      rw [ex] at hcell BX
      have lt := leN_lt f k (fun j hj => HF.out j (by omega))
      rw [← HA.out] at lt
      have st := or_step A x k (by have := HN.out; omega) lt.1 lt.2 BX
      obtain ⟨z, ez⟩ : ∃ z, A + pw k * x = z := ⟨_, rfl⟩
      have HZ : Hid (z = leN f (k + 1)) := Lib.hid (by rw [leN, ← HA.out, ex, ez])
      rw [ez] at st
      have wx : IntKind.u64.wrap x = x := IntWalk.u64_in _ (by unfold inB at BX; omega)
      have x0 : 0 ≤ x := BX.1
      rw [pw_two] at st
      clear hlt hk ex lt ez hH BX HA
      go_wp2_with (fail)
      go_roundw
      case rel => (first | exact ⟨k + 1, z, HLT.out, rfl, HZ, by go_num, (by first | rfl | trivial)⟩ | ((repeat apply Exists.intro); exact ⟨⟨k + 1, z, HLT.out, rfl, HZ, by go_num, (by first | rfl | trivial)⟩, rfl⟩))
      case measure => (have := HLT.out; simp [intOf]; omega)
    · obtain rfl : k = n := by omega
      go_wp2_with (fail)
      go_ret
      exact ⟨by rw [← HA.out]; rfl, rfl⟩
theorem nxL_le (N at_ : Nat) (er x : Int) (h : nxE N at_ er x 1 8 = 0) : er = 0 ∧ 1 ≤ x ∧ x ≤ 8 ∧ x ≤ ((N - at_ : Nat) : Int) := by
  unfold nxE at h
  by_cases h0 : er = 0
  · by_cases h1 : x < 1 ∨ 8 < x
    · simp [h0, h1] at h
    · by_cases h2 : ((N - at_ : Nat) : Int) < x
      · simp [h0, h1, h2] at h
      · omega
  · simp [h0] at h
theorem nxL_8 (N at_ : Nat) (er x : Int) : nxL x (nxE N at_ er x 1 8) ≤ 8 := by
  unfold nxL
  split
  · rename_i h
    have := nxL_le N at_ er x h
    omega
  · omega
theorem nx_in (N at_ : Nat) (er x : Int) (F : Nat → Int) (hF : ∀ j, j < N → inB (F j)) : ∀ j, j < nxL x (nxE N at_ er x 1 8) → inB (F (at_ + j)) := fun j hj => by
  unfold nxL at hj
  split at hj
  · rename_i h
    have := nxL_le N at_ er x h
    exact hF _ (by omega)
  · omega
/-- what Num tells -/
def numF (F : Nat → Int) (at_ : Nat) (x E : Int) : Int := leN (fun j => F (at_ + j)) (nxL x E)

set_option maxHeartbeats 4000000 in
theorem Num_any {K D N at_ : Nat} {er : Int} {F : Nat → Int} {w : World} (x : Int) (hF : ∀ j, j < N → inB (F j)) (h : Rd w K D F N at_ er) :
    Calls Try.prog 29 #[.pointer (some ⟨K, 0, none⟩), .int .i64 x] w fun e w' => e = .returned (.int .u64 (numF F at_ x (nxE N at_ er x 1 8))) ∧ Rd w' K D F N (nxA at_ x (nxE N at_ er x 1 8)) (nxE N at_ er x 1 8) ∧ But K w w' := by
  have CU := Lib.hid (cut_any x 1 8 (by decide) h)
  have NB := Lib.hid (fun q c w hq => number_any q _ c _ (nxL_8 N at_ er x) (nx_in N at_ er x F hF) w hq)
  unfold numF
  clear h hF
  generalize nxE N at_ er x 1 8 = E at *
  generalize nxL x E = L at *
  go_enter Try.func29, Try.ntmps29
  go_wp2_with (fail)
  go_at_call 46
  refine (CU.out).mono ?_
  rintro e w1 ⟨p, c, rfl, h1, h2, h3, h4, h5⟩
  have HB := Lib.hid h3; have HR := Lib.hid h4; have HU := Lib.hid h5
  clear h1 h2 h3 h4 h5 CU
  go_wp2_with (fail)
  go_at_call 45
  refine (NB.out _ _ _ HB.out).mono ?_
  rintro e w2 ⟨rfl, hw⟩
  obtain rfl : w1 = w2 := hw.symm
  go_wp2_with (fail)
  go_ret
  exact ⟨rfl, HR.out, HU.out⟩

/-- what Int tells -/
def intF (F : Nat → Int) (at_ : Nat) (x E : Int) : Int := sgn (numF F at_ x E) (nxL x E)
theorem wrap_turn (X : Int) (h0 : 0 ≤ X) (h1 : X < 18446744073709551616) : IntKind.i64.wrap X = if 9223372036854775808 ≤ X then X - 18446744073709551616 else X := by
  have e : X % 18446744073709551616 = X := Int.emod_eq_of_lt h0 h1
  simp [IntKind.wrap, IntKind.bits, IntKind.signed, e]
theorem shift_back (v : Int) (L m : Nat) (h8 : L ≤ 8) (em : 64 - 8 * L = m) (h0 : 0 ≤ v) (h1 : v < pw L) : IntKind.i64.wrap (IntKind.u64.wrap (v * 2 ^ m)) / 2 ^ m = sgn v L := by
  have hT : (0 : Int) < 2 ^ m := Int.pow_pos (by decide)
  have e : pw L * 2 ^ m = 18446744073709551616 := by
    rw [pw_two, ← Int.pow_add, show 8 * L + m = 64 by omega]
    rfl
  generalize (2 : Int) ^ m = T at *
  have hX0 : 0 ≤ v * T := Int.mul_nonneg h0 (Int.le_of_lt hT)
  have hX1 : v * T < 18446744073709551616 := by rw [← e]; exact Int.mul_lt_mul_of_pos_right h1 hT
  rw [IntWalk.u64_in _ (by omega), wrap_turn _ hX0 hX1]
  unfold sgn
  by_cases hc : pw L ≤ 2 * v
  · have : pw L * T ≤ 2 * v * T := Int.mul_le_mul_of_nonneg_right hc (Int.le_of_lt hT)
    rw [e, Int.mul_assoc] at this
    rw [if_pos (by omega), if_pos hc, ← e, ← Int.sub_mul, Int.mul_ediv_cancel _ (by omega)]
  · have : 2 * v * T < pw L * T := Int.mul_lt_mul_of_pos_right (by omega) hT
    rw [e, Int.mul_assoc] at this
    rw [if_neg (by omega), if_neg hc, Int.mul_ediv_cancel _ (by omega)]

set_option maxHeartbeats 4000000 in
theorem Take_any {K D N at_ : Nat} {er : Int} {F : Nat → Int} {w : World} (x : Int) (hN : N ≤ 70368744177664) (h : Rd w K D F N at_ er) :
    Calls Try.prog 30 #[.pointer (some ⟨K, 0, none⟩), .int .i64 x] w fun e w' => ∃ v, e = .returned v ∧ w'.ownsRow w.heap.size 5 1 v (nxL x (nxE N at_ er x 0 9223372036854775807)) (nums .u8 (fun j => F (at_ + j)) (nxL x (nxE N at_ er x 0 9223372036854775807))) ∧ Rd w' K D F N (nxA at_ x (nxE N at_ er x 0 9223372036854775807)) (nxE N at_ er x 0 9223372036854775807) ∧ But K w w' := by
  have CU := Lib.hid (cut_any x 0 9223372036854775807 (by decide) h)
  have LN : nxL x (nxE N at_ er x 0 9223372036854775807) ≤ N := by
    unfold nxL nxE
    by_cases h0 : er = 0
    · by_cases h1 : x < 0 ∨ 9223372036854775807 < x
      · simp [h0, h1]
      · by_cases h2 : ((N - at_ : Nat) : Int) < x
        · simp [h0, h1, h2]
        · simp [h0, h1, h2]; omega
    · simp [h0]
  have Kl := h.lt
  clear h
  generalize nxE N at_ er x 0 9223372036854775807 = E at *
  generalize nxL x E = L at *
  have CL := Lib.hid (fun q c w hq => Clone_any q L c (fun j => F (at_ + j)) (by omega) w hq)
  have KL := Lib.hid Kl
  clear LN hN Kl
  go_enter Try.func30, Try.ntmps30
  go_wp2_with (fail)
  go_at_call 46
  refine (CU.out).mono ?_
  rintro e w1 ⟨p, c, rfl, h1, h2, h3, h4, h5⟩
  have HB := Lib.hid h3; have HR := Lib.hid h4; have HU := Lib.hid h5
  clear h1 h2 h3 h4 h5 CU
  go_wp2_with (fail)
  go_at_call 44
  refine (CL.out _ _ _ HB.out).mono ?_
  rintro e w2 ⟨v, rfl, hrow, hb⟩
  have O1 := Lib.hid (row_base hrow HU.out.below.size)
  have O2 := Lib.hid (HR.out.later hb)
  have O3 := Lib.hid (HU.out.trans (But.of hb HR.out.lt))
  clear hrow hb HB HR HU
  go_wp2_with (fail)
  go_ret
  exact ⟨v, rfl, O1.out, O2.out, O3.out⟩
end Go.Proofs.Ytbhdlpndmbhaiaa
