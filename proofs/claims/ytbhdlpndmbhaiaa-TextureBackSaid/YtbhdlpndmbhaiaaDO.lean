/- codec: the document's Reader: Num. -/
import Derived.Test.YtbhdlpndmbhaiaaDN
import Derived.Lib.Hide
import Derived.LoopN
import Derived.LoopTactic
import Derived.Deep.Onto
import Derived.Deep.QuietTactic
import Derived.BigQuiet
namespace Go.Proofs.Ytbhdlpndmbhaiaa
set_option linter.unusedVariables false
set_option maxRecDepth 2000
set_option linter.unusedSimpArgs false
open Go.RowKit
attribute [local go_sem] nums_length
theorem leN_cons (f : Nat → Int) (n : Nat) : leN f (n + 1) = f 0 + 256 * leN (fun j => f (j + 1)) n := by
  induction n with
  | zero => simp [leN, pw_zero]
  | succ n ih =>
    rw [leN, ih, leN, pw_succ]
    have : 256 * pw n * f (n + 1) = 256 * (pw n * f (n + 1)) := Int.mul_assoc _ _ _
    rw [this]
    omega
theorem nx_ref (N at_ : Nat) (er x y er1 : Int) (hy : max x 0 = y) (h1 : er1 = if er = 0 ∧ (x < 1 ∨ 8 < x) then 2 else er) (hx : x ≤ 9223372036854775807) :
    nxE N at_ er1 y 0 9223372036854775807 = nxE N at_ er x 1 8 ∧ nxA at_ y (nxE N at_ er x 1 8) = nxA at_ x (nxE N at_ er x 1 8) ∧ nxL y (nxE N at_ er x 1 8) = nxL x (nxE N at_ er x 1 8) := by
  by_cases h0 : er = 0
  · by_cases hb : x < 1 ∨ 8 < x
    · rw [if_pos ⟨h0, hb⟩] at h1
      subst h1
      simp [nxE, nxA, nxL, h0, hb]
    · rw [if_neg (fun h => hb h.2)] at h1
      subst h1
      have e : y = x := by omega
      subst e
      simp [nxE, h0, hb]
      omega
  · rw [if_neg (fun h => h0 h.1)] at h1
    subst h1
    simp [nxE, nxA, nxL, h0]

set_option maxHeartbeats 8000000 in
theorem RNum_any {S D N at_ : Nat} {er : Int} {F : Nat → Int} {w : World} (x : Int) (hx : x ≤ 9223372036854775807) (hF : ∀ j, j < N → inB (F j)) (h : RRd w S D F N at_ er) :
    Calls Try.prog 33 #[.pointer (some ⟨S, 0, none⟩), .int .i64 x] w fun e w' => e = .returned (.int .u64 (numF F at_ x (nxE N at_ er x 1 8))) ∧ RRd w' S D F N (nxA at_ x (nxE N at_ er x 1 8)) (nxE N at_ er x 1 8) ∧ But S w w' := by
  obtain ⟨y, hy⟩ : ∃ y, max x 0 = y := ⟨_, rfl⟩
  have hyx : y ≤ 9223372036854775807 := by omega
  have L8 := Lib.hid (nxL_8 N at_ er x)
  have FI := Lib.hid (nx_in N at_ er x F hF)
  unfold numF
  by_cases hb : er = 0 ∧ (x < 1 ∨ 8 < x)
  · have NR := nx_ref N at_ er x y 2 hy (by rw [if_pos hb]) hx
    have TK := Lib.hid (fun w h => RTake_any (S := S) (D := D) (N := N) (at_ := at_) (er := 2) (F := F) (w := w) y hyx h)
    rw [NR.1, NR.2.1, NR.2.2] at TK
    obtain ⟨p, c, hS, hby, hlc, hcm⟩ := h.ex
    have hle := h.le
    have s2 := hS.at 2 _ rfl
    have f2 := hS.ok 2 (by simp)
    have Sl := hS.lt
    obtain ⟨h0, hbb⟩ := hb
    subst h0
    have O1 : Own S [.slice p N c, .int .i64 at_, .int .i64 2] (w.setCell ⟨S, 2, none⟩ (.int .i64 2)) := Own.part (o := 2) (vs := [.int .i64 2]) hS (by simp)
    have B1 : But S w (w.setCell ⟨S, 2, none⟩ (.int .i64 2)) := But.store (o := 2) (vs := [.int .i64 2])
    have HR1 : Hid (RRd (w.setCell ⟨S, 2, none⟩ (.int .i64 2)) S D F N at_ 2) := Lib.hid ⟨⟨p, c, O1, hby.but B1, hlc, hcm⟩, hle⟩
    have BU1 := Lib.hid B1
    clear O1 B1 hS hby hlc hcm hle h NR hF
    generalize nxE N at_ 0 x 1 8 = E at *
    generalize nxL x E = L at *
    generalize nxA at_ x E = A_ at *
    by_cases hx1 : x < 1
    · clear hbb
      go_enter Try.func33, Try.ntmps33
      go_wp2_with (fail)
      go_at_call 50
      refine (TK.out _ HR1.out).mono ?_
      rintro e w5 ⟨p, c, rfl, hlc, hcm, hby, hrr, hbu⟩
      have BY := Lib.hid hby; have RR := Lib.hid hrr; have BU := Lib.hid (BU1.out.trans hbu)
      have LC := Lib.hid hlc; have CM := Lib.hid hcm
      clear hlc hcm hby hrr hbu TK HR1 BU1
      have wL : IntKind.i64.wrap ((L : Int) - 1) = (L : Int) - 1 := IntWalk.i64_in _ (by have := L8.out; omega)
      have wL2 : wrap64 ((L : Int) - 1) = (L : Int) - 1 := IntWalk.wrap64_in _ (by have := L8.out; omega)
      go_wp2_with (fail)
      go_loopw [6, 7] (fun nv iv wr => ∃ (k : Nat) (A i : Int), k ≤ L ∧ nv = .int .u64 A ∧ Hid (A = leN (fun j => F (at_ + (k + j))) (L - k)) ∧ iv = .int .i64 i ∧ Hid (i = (k : Int) - 1) ∧ w5 = wr) (fun _ iv _ => (intOf iv + 1).toNat)
      case atStart => exact ⟨L, 0, (L : Int) - 1, Nat.le_refl _, rfl, Lib.hid (by rw [Nat.sub_self]; rfl), rfl, Lib.hid rfl, rfl⟩
      case round =>
        obtain ⟨k, A, i, hk, rfl, HA, rfl, HI, rfl⟩ := hrel
        cases k with
        | zero =>
          obtain rfl : i = -1 := by have := HI.out; omega
          clear HI
          go_wp2_with (fail)
          go_ret
          refine ⟨?_, RR.out, BU.out⟩
          have e1 := HA.out
          simp only [Nat.zero_add, Nat.sub_zero] at e1
          rw [← e1]
          rfl
        | succ k =>
          obtain rfl : i = (k : Int) := by have := HI.out; omega
          clear HI
          obtain ⟨D, o, rfl, hH⟩ := BY.out.resolve_left (by omega)
          have hcell : w5.cell? ⟨D, o + k, none⟩ = some (.int .u8 (F (at_ + k))) := hH.cell k _ (nums_at _ _ (by omega))
          have hD := hH.lt
          have k0 : (0 : Int) ≤ (k : Int) := by omega
          have hkl : (k : Int) < (L : Int) := by omega
          have wk : IntKind.i64.wrap ((k : Int) - 1) = (k : Int) - 1 := IntWalk.i64_in _ (by have := L8.out; omega)
          have IX := FI.out k (by omega)
          have hA2 : F (at_ + k) + 256 * A = leN (fun j => F (at_ + (k + j))) (L - k) := by
            rw [HA.out, show L - k = (L - (k + 1)) + 1 by omega, leN_cons]
            simp only [Nat.add_zero]
            congr 1
            congr 1
            apply leN_congr
            intro j hj
            rw [show at_ + (k + 1 + j) = at_ + (k + (j + 1)) by omega]
          have bd := leN_lt (fun j => F (at_ + (k + j))) (L - k) (fun j hj => FI.out (k + j) (by omega))
          have bd0 := leN_lt (fun j => F (at_ + (k + 1 + j))) (L - (k + 1)) (fun j hj => FI.out (k + 1 + j) (by omega))
          rw [← HA.out] at bd0
          rw [← hA2] at bd
          have pl : pw (L - k) ≤ 18446744073709551616 := pw_le (by have := L8.out; omega)
          obtain ⟨x, ex⟩ : ∃ x, F (at_ + k) = x := ⟨_, rfl⟩
          rw [ex] at hcell IX hA2 bd
          unfold inB at IX
          have u1 : IntKind.u64.wrap (A * 256) = A * 256 := IntWalk.u64_in _ (by omega)
          have u2 : IntKind.u64.wrap x = x := IntWalk.u64_in _ (by omega)
          have u3 : IntKind.u64.wrap (A * 256 + x) = A * 256 + x := IntWalk.u64_in _ (by omega)
          have x0 : 0 ≤ x := IX.1
          have HA2 : Hid (A * 256 + x = leN (fun j => F (at_ + (k + j))) (L - k)) := Lib.hid (by rw [← hA2]; omega)
          have HK := Lib.hid hk
          clear hk hA2 bd bd0 pl ex HA IX hH
          go_wp2_with (fail)
          go_roundw
          case rel => (first | exact ⟨k, _, _, by have := HK.out; omega, rfl, HA2, rfl, Lib.hid rfl, (by first | rfl | trivial)⟩ | ((repeat apply Exists.intro); exact ⟨⟨k, _, _, by have := HK.out; omega, rfl, HA2, rfl, Lib.hid rfl, (by first | rfl | trivial)⟩, rfl⟩))
          case measure => first | (simp [intOf]; done) | (simp [intOf]; omega)
    · have hx8 : 8 < x := by omega
      clear hbb
      go_enter Try.func33, Try.ntmps33
      go_wp2_with (fail)
      go_at_call 50
      refine (TK.out _ HR1.out).mono ?_
      rintro e w5 ⟨p, c, rfl, hlc, hcm, hby, hrr, hbu⟩
      have BY := Lib.hid hby; have RR := Lib.hid hrr; have BU := Lib.hid (BU1.out.trans hbu)
      have LC := Lib.hid hlc; have CM := Lib.hid hcm
      clear hlc hcm hby hrr hbu TK HR1 BU1
      have wL : IntKind.i64.wrap ((L : Int) - 1) = (L : Int) - 1 := IntWalk.i64_in _ (by have := L8.out; omega)
      have wL2 : wrap64 ((L : Int) - 1) = (L : Int) - 1 := IntWalk.wrap64_in _ (by have := L8.out; omega)
      go_wp2_with (fail)
      go_loopw [6, 7] (fun nv iv wr => ∃ (k : Nat) (A i : Int), k ≤ L ∧ nv = .int .u64 A ∧ Hid (A = leN (fun j => F (at_ + (k + j))) (L - k)) ∧ iv = .int .i64 i ∧ Hid (i = (k : Int) - 1) ∧ w5 = wr) (fun _ iv _ => (intOf iv + 1).toNat)
      case atStart => exact ⟨L, 0, (L : Int) - 1, Nat.le_refl _, rfl, Lib.hid (by rw [Nat.sub_self]; rfl), rfl, Lib.hid rfl, rfl⟩
      case round =>
        obtain ⟨k, A, i, hk, rfl, HA, rfl, HI, rfl⟩ := hrel
        cases k with
        | zero =>
          obtain rfl : i = -1 := by have := HI.out; omega
          clear HI
          go_wp2_with (fail)
          go_ret
          refine ⟨?_, RR.out, BU.out⟩
          have e1 := HA.out
          simp only [Nat.zero_add, Nat.sub_zero] at e1
          rw [← e1]
          rfl
        | succ k =>
          obtain rfl : i = (k : Int) := by have := HI.out; omega
          clear HI
          obtain ⟨D, o, rfl, hH⟩ := BY.out.resolve_left (by omega)
          have hcell : w5.cell? ⟨D, o + k, none⟩ = some (.int .u8 (F (at_ + k))) := hH.cell k _ (nums_at _ _ (by omega))
          have hD := hH.lt
          have k0 : (0 : Int) ≤ (k : Int) := by omega
          have hkl : (k : Int) < (L : Int) := by omega
          have wk : IntKind.i64.wrap ((k : Int) - 1) = (k : Int) - 1 := IntWalk.i64_in _ (by have := L8.out; omega)
          have IX := FI.out k (by omega)
          have hA2 : F (at_ + k) + 256 * A = leN (fun j => F (at_ + (k + j))) (L - k) := by
            rw [HA.out, show L - k = (L - (k + 1)) + 1 by omega, leN_cons]
            simp only [Nat.add_zero]
            congr 1
            congr 1
            apply leN_congr
            intro j hj
            rw [show at_ + (k + 1 + j) = at_ + (k + (j + 1)) by omega]
          have bd := leN_lt (fun j => F (at_ + (k + j))) (L - k) (fun j hj => FI.out (k + j) (by omega))
          have bd0 := leN_lt (fun j => F (at_ + (k + 1 + j))) (L - (k + 1)) (fun j hj => FI.out (k + 1 + j) (by omega))
          rw [← HA.out] at bd0
          rw [← hA2] at bd
          have pl : pw (L - k) ≤ 18446744073709551616 := pw_le (by have := L8.out; omega)
          obtain ⟨x, ex⟩ : ∃ x, F (at_ + k) = x := ⟨_, rfl⟩
          rw [ex] at hcell IX hA2 bd
          unfold inB at IX
          have u1 : IntKind.u64.wrap (A * 256) = A * 256 := IntWalk.u64_in _ (by omega)
          have u2 : IntKind.u64.wrap x = x := IntWalk.u64_in _ (by omega)
          have u3 : IntKind.u64.wrap (A * 256 + x) = A * 256 + x := IntWalk.u64_in _ (by omega)
          have x0 : 0 ≤ x := IX.1
          have HA2 : Hid (A * 256 + x = leN (fun j => F (at_ + (k + j))) (L - k)) := Lib.hid (by rw [← hA2]; omega)
          have HK := Lib.hid hk
          clear hk hA2 bd bd0 pl ex HA IX hH
          go_wp2_with (fail)
          go_roundw
          case rel => (first | exact ⟨k, _, _, by have := HK.out; omega, rfl, HA2, rfl, Lib.hid rfl, (by first | rfl | trivial)⟩ | ((repeat apply Exists.intro); exact ⟨⟨k, _, _, by have := HK.out; omega, rfl, HA2, rfl, Lib.hid rfl, (by first | rfl | trivial)⟩, rfl⟩))
          case measure => first | (simp [intOf]; done) | (simp [intOf]; omega)
  · have NR := nx_ref N at_ er x y er hy (by rw [if_neg hb]) hx
    have TK := Lib.hid (fun w h => RTake_any (S := S) (D := D) (N := N) (at_ := at_) (er := er) (F := F) (w := w) y hyx h)
    rw [NR.1, NR.2.1, NR.2.2] at TK
    obtain ⟨p, c, hS, hby, hlc, hcm⟩ := h.ex
    have s2 := hS.at 2 _ rfl
    have Sl := hS.lt
    have HR1 := Lib.hid h
    have BU1 := Lib.hid (But.refl S w)
    clear hS hby hlc hcm h NR hF
    generalize nxE N at_ er x 1 8 = E at *
    generalize nxL x E = L at *
    generalize nxA at_ x E = A_ at *
    by_cases h0 : er = 0
    · subst h0
      have hx1 : ¬x < 1 := by omega
      have hx8 : ¬8 < x := by omega
      clear hb
      go_enter Try.func33, Try.ntmps33
      go_wp2_with (fail)
      go_at_call 50
      refine (TK.out _ HR1.out).mono ?_
      rintro e w5 ⟨p, c, rfl, hlc, hcm, hby, hrr, hbu⟩
      have BY := Lib.hid hby; have RR := Lib.hid hrr; have BU := Lib.hid (BU1.out.trans hbu)
      have LC := Lib.hid hlc; have CM := Lib.hid hcm
      clear hlc hcm hby hrr hbu TK HR1 BU1
      have wL : IntKind.i64.wrap ((L : Int) - 1) = (L : Int) - 1 := IntWalk.i64_in _ (by have := L8.out; omega)
      have wL2 : wrap64 ((L : Int) - 1) = (L : Int) - 1 := IntWalk.wrap64_in _ (by have := L8.out; omega)
      go_wp2_with (fail)
      go_loopw [6, 7] (fun nv iv wr => ∃ (k : Nat) (A i : Int), k ≤ L ∧ nv = .int .u64 A ∧ Hid (A = leN (fun j => F (at_ + (k + j))) (L - k)) ∧ iv = .int .i64 i ∧ Hid (i = (k : Int) - 1) ∧ w5 = wr) (fun _ iv _ => (intOf iv + 1).toNat)
      case atStart => exact ⟨L, 0, (L : Int) - 1, Nat.le_refl _, rfl, Lib.hid (by rw [Nat.sub_self]; rfl), rfl, Lib.hid rfl, rfl⟩
      case round =>
        obtain ⟨k, A, i, hk, rfl, HA, rfl, HI, rfl⟩ := hrel
        cases k with
        | zero =>
          obtain rfl : i = -1 := by have := HI.out; omega
          clear HI
          go_wp2_with (fail)
          go_ret
          refine ⟨?_, RR.out, BU.out⟩
          have e1 := HA.out
          simp only [Nat.zero_add, Nat.sub_zero] at e1
          rw [← e1]
          rfl
        | succ k =>
          obtain rfl : i = (k : Int) := by have := HI.out; omega
          clear HI
          obtain ⟨D, o, rfl, hH⟩ := BY.out.resolve_left (by omega)
          have hcell : w5.cell? ⟨D, o + k, none⟩ = some (.int .u8 (F (at_ + k))) := hH.cell k _ (nums_at _ _ (by omega))
          have hD := hH.lt
          have k0 : (0 : Int) ≤ (k : Int) := by omega
          have hkl : (k : Int) < (L : Int) := by omega
          have wk : IntKind.i64.wrap ((k : Int) - 1) = (k : Int) - 1 := IntWalk.i64_in _ (by have := L8.out; omega)
          have IX := FI.out k (by omega)
          have hA2 : F (at_ + k) + 256 * A = leN (fun j => F (at_ + (k + j))) (L - k) := by
            rw [HA.out, show L - k = (L - (k + 1)) + 1 by omega, leN_cons]
            simp only [Nat.add_zero]
            congr 1
            congr 1
            apply leN_congr
            intro j hj
            rw [show at_ + (k + 1 + j) = at_ + (k + (j + 1)) by omega]
          have bd := leN_lt (fun j => F (at_ + (k + j))) (L - k) (fun j hj => FI.out (k + j) (by omega))
          have bd0 := leN_lt (fun j => F (at_ + (k + 1 + j))) (L - (k + 1)) (fun j hj => FI.out (k + 1 + j) (by omega))
          rw [← HA.out] at bd0
          rw [← hA2] at bd
          have pl : pw (L - k) ≤ 18446744073709551616 := pw_le (by have := L8.out; omega)
          obtain ⟨x, ex⟩ : ∃ x, F (at_ + k) = x := ⟨_, rfl⟩
          rw [ex] at hcell IX hA2 bd
          unfold inB at IX
          have u1 : IntKind.u64.wrap (A * 256) = A * 256 := IntWalk.u64_in _ (by omega)
          have u2 : IntKind.u64.wrap x = x := IntWalk.u64_in _ (by omega)
          have u3 : IntKind.u64.wrap (A * 256 + x) = A * 256 + x := IntWalk.u64_in _ (by omega)
          have x0 : 0 ≤ x := IX.1
          have HA2 : Hid (A * 256 + x = leN (fun j => F (at_ + (k + j))) (L - k)) := Lib.hid (by rw [← hA2]; omega)
          have HK := Lib.hid hk
          clear hk hA2 bd bd0 pl ex HA IX hH
          go_wp2_with (fail)
          go_roundw
          case rel => (first | exact ⟨k, _, _, by have := HK.out; omega, rfl, HA2, rfl, Lib.hid rfl, (by first | rfl | trivial)⟩ | ((repeat apply Exists.intro); exact ⟨⟨k, _, _, by have := HK.out; omega, rfl, HA2, rfl, Lib.hid rfl, (by first | rfl | trivial)⟩, rfl⟩))
          case measure => first | (simp [intOf]; done) | (simp [intOf]; omega)
    · clear hb
      go_enter Try.func33, Try.ntmps33
      go_wp2_with (fail)
      go_at_call 50
      refine (TK.out _ HR1.out).mono ?_
      rintro e w5 ⟨p, c, rfl, hlc, hcm, hby, hrr, hbu⟩
      have BY := Lib.hid hby; have RR := Lib.hid hrr; have BU := Lib.hid (BU1.out.trans hbu)
      have LC := Lib.hid hlc; have CM := Lib.hid hcm
      clear hlc hcm hby hrr hbu TK HR1 BU1
      have wL : IntKind.i64.wrap ((L : Int) - 1) = (L : Int) - 1 := IntWalk.i64_in _ (by have := L8.out; omega)
      have wL2 : wrap64 ((L : Int) - 1) = (L : Int) - 1 := IntWalk.wrap64_in _ (by have := L8.out; omega)
      go_wp2_with (fail)
      go_loopw [6, 7] (fun nv iv wr => ∃ (k : Nat) (A i : Int), k ≤ L ∧ nv = .int .u64 A ∧ Hid (A = leN (fun j => F (at_ + (k + j))) (L - k)) ∧ iv = .int .i64 i ∧ Hid (i = (k : Int) - 1) ∧ w5 = wr) (fun _ iv _ => (intOf iv + 1).toNat)
      case atStart => exact ⟨L, 0, (L : Int) - 1, Nat.le_refl _, rfl, Lib.hid (by rw [Nat.sub_self]; rfl), rfl, Lib.hid rfl, rfl⟩
      case round =>
        obtain ⟨k, A, i, hk, rfl, HA, rfl, HI, rfl⟩ := hrel
        cases k with
        | zero =>
          obtain rfl : i = -1 := by have := HI.out; omega
          clear HI
          go_wp2_with (fail)
          go_ret
          refine ⟨?_, RR.out, BU.out⟩
          have e1 := HA.out
          simp only [Nat.zero_add, Nat.sub_zero] at e1
          rw [← e1]
          rfl
        | succ k =>
          obtain rfl : i = (k : Int) := by have := HI.out; omega
          clear HI
          obtain ⟨D, o, rfl, hH⟩ := BY.out.resolve_left (by omega)
          have hcell : w5.cell? ⟨D, o + k, none⟩ = some (.int .u8 (F (at_ + k))) := hH.cell k _ (nums_at _ _ (by omega))
          have hD := hH.lt
          have k0 : (0 : Int) ≤ (k : Int) := by omega
          have hkl : (k : Int) < (L : Int) := by omega
          have wk : IntKind.i64.wrap ((k : Int) - 1) = (k : Int) - 1 := IntWalk.i64_in _ (by have := L8.out; omega)
          have IX := FI.out k (by omega)
          have hA2 : F (at_ + k) + 256 * A = leN (fun j => F (at_ + (k + j))) (L - k) := by
            rw [HA.out, show L - k = (L - (k + 1)) + 1 by omega, leN_cons]
            simp only [Nat.add_zero]
            congr 1
            congr 1
            apply leN_congr
            intro j hj
            rw [show at_ + (k + 1 + j) = at_ + (k + (j + 1)) by omega]
          have bd := leN_lt (fun j => F (at_ + (k + j))) (L - k) (fun j hj => FI.out (k + j) (by omega))
          have bd0 := leN_lt (fun j => F (at_ + (k + 1 + j))) (L - (k + 1)) (fun j hj => FI.out (k + 1 + j) (by omega))
          rw [← HA.out] at bd0
          rw [← hA2] at bd
          have pl : pw (L - k) ≤ 18446744073709551616 := pw_le (by have := L8.out; omega)
          obtain ⟨x, ex⟩ : ∃ x, F (at_ + k) = x := ⟨_, rfl⟩
          rw [ex] at hcell IX hA2 bd
          unfold inB at IX
          have u1 : IntKind.u64.wrap (A * 256) = A * 256 := IntWalk.u64_in _ (by omega)
          have u2 : IntKind.u64.wrap x = x := IntWalk.u64_in _ (by omega)
          have u3 : IntKind.u64.wrap (A * 256 + x) = A * 256 + x := IntWalk.u64_in _ (by omega)
          have x0 : 0 ≤ x := IX.1
          have HA2 : Hid (A * 256 + x = leN (fun j => F (at_ + (k + j))) (L - k)) := Lib.hid (by rw [← hA2]; omega)
          have HK := Lib.hid hk
          clear hk hA2 bd bd0 pl ex HA IX hH
          go_wp2_with (fail)
          go_roundw
          case rel => (first | exact ⟨k, _, _, by have := HK.out; omega, rfl, HA2, rfl, Lib.hid rfl, (by first | rfl | trivial)⟩ | ((repeat apply Exists.intro); exact ⟨⟨k, _, _, by have := HK.out; omega, rfl, HA2, rfl, Lib.hid rfl, (by first | rfl | trivial)⟩, rfl⟩))
          case measure => first | (simp [intOf]; done) | (simp [intOf]; omega)
end Go.Proofs.Ytbhdlpndmbhaiaa
