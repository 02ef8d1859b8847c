/- codec: the document's Reader: Int, Left, End. -/
import Derived.Test.YtnopcgkhoennfaaDO
import Derived.Lib.Hide
import Derived.Deep.Onto
import Derived.Deep.QuietTactic
import Derived.BigQuiet
namespace Go.Proofs.Ytnopcgkhoennfaa
set_option linter.unusedVariables false
set_option maxRecDepth 2000
set_option linter.unusedSimpArgs false
open Go.RowKit
attribute [local go_sem] nums_length

set_option maxHeartbeats 8000000 in
theorem RInt_any {S D N at_ : Nat} {er : Int} {F : Nat → Int} {w : World} (x : Int) (hx : x ≤ 9223372036854775807) (hF : ∀ j, j < N → inB (F j)) (h : RRd w S D F N at_ er) :
    Calls Try.prog 54 #[.pointer (some ⟨S, 0, none⟩), .int .i64 x] w fun e w' => e = .returned (.int .i64 (intF F at_ x (nxE N at_ er x 1 8))) ∧ RRd w' S D F N (nxA at_ x (nxE N at_ er x 1 8)) (nxE N at_ er x 1 8) ∧ But S w w' := by
  have NU := Lib.hid (RNum_any x hx hF h)
  have XB := fun h => nxL_le N at_ er x h
  have V := leN_lt (fun j => F (at_ + j)) _ (nx_in N at_ er x F hF)
  unfold intF numF at *
  clear h hF
  generalize nxE N at_ er x 1 8 = E at *
  generalize nxA at_ x E = A_ at *
  by_cases hE : E = 0
  · subst hE
    have xb := XB rfl
    obtain ⟨W, rfl⟩ : ∃ W : Nat, x = (W : Int) := ⟨x.toNat, by omega⟩
    have eL : nxL (W : Int) 0 = W := by simp [nxL]
    rw [eL] at NU V ⊢
    generalize leN (fun j => F (at_ + j)) W = v at *
    have h1 : 1 ≤ W := by omega
    have h8 : W ≤ 8 := by omega
    have ev := pw_even h1
    have pp := pw_pos W
    have pl := pw_le h8
    obtain ⟨M, eM⟩ : ∃ M, pw W - 1 = M := ⟨_, rfl⟩
    obtain ⟨H, eH⟩ : ∃ H, M / 2 = H := ⟨_, rfl⟩
    have MO := Lib.hid (fun w => most_any W h8 w)
    rw [eM] at MO
    have t1 : M.tdiv 2 = H := by rw [Int.tdiv_eq_ediv_of_nonneg (by omega)]; exact eH
    have t2 : IntKind.u64.wrap H = H := IntWalk.u64_in _ (by omega)
    by_cases hv : H < v
    · have e1 : sgn v W = v - pw W := by unfold sgn; rw [if_pos (by omega)]
      rw [e1]
      obtain ⟨d, ed⟩ : ∃ d, M - v = d := ⟨_, rfl⟩
      have t3 : IntKind.u64.wrap d = d := IntWalk.u64_in _ (by omega)
      have t4 : IntKind.i64.wrap d = d := IntWalk.i64_in _ (by omega)
      have t5 : IntKind.i64.wrap (-d) = -d := IntWalk.i64_in _ (by omega)
      have t6 : IntKind.i64.wrap (-d - 1) = v - pw W := by rw [IntWalk.i64_in _ (by omega)]; omega
      clear xb XB V ev pp pl eM eH e1 h1 h8 eL
      go_enter Try.func54, Try.ntmps54
      go_wp2_with (fail)
      go_at_call 28
      refine (NU.out).mono ?_
      rintro e w1 ⟨rfl, hr, hb⟩
      have RR := Lib.hid hr; have BU := Lib.hid hb
      obtain ⟨p, c, hS, _⟩ := hr.ex
      have s2 := hS.at 2 _ rfl
      have Sl := hS.lt
      clear hS hr hb NU
      go_wp2_with (fail)
      go_at_call 55
      refine (MO.out _).mono ?_
      rintro e w2 ⟨rfl, hw⟩
      obtain rfl : w1 = w2 := hw.symm
      go_wp2_with (fail)
      go_at_call 55
      refine (MO.out _).mono ?_
      rintro e w2 ⟨rfl, hw⟩
      obtain rfl : w1 = w2 := hw.symm
      go_wp2_with (fail)
      go_ret
      exact ⟨rfl, RR.out, BU.out⟩
    · have e1 : sgn v W = v := by unfold sgn; rw [if_neg (by omega)]
      rw [e1]
      have t3 : IntKind.i64.wrap v = v := IntWalk.i64_in _ (by omega)
      clear xb XB V ev pp pl eM eH e1 h1 h8 eL
      go_enter Try.func54, Try.ntmps54
      go_wp2_with (fail)
      go_at_call 28
      refine (NU.out).mono ?_
      rintro e w1 ⟨rfl, hr, hb⟩
      have RR := Lib.hid hr; have BU := Lib.hid hb
      obtain ⟨p, c, hS, _⟩ := hr.ex
      have s2 := hS.at 2 _ rfl
      have Sl := hS.lt
      clear hS hr hb NU
      go_wp2_with (fail)
      go_at_call 55
      refine (MO.out _).mono ?_
      rintro e w2 ⟨rfl, hw⟩
      obtain rfl : w1 = w2 := hw.symm
      go_wp2_with (fail)
      go_ret
      exact ⟨rfl, RR.out, BU.out⟩
  · have eL : nxL x E = 0 := by simp [nxL, hE]
    rw [eL] at NU ⊢
    have e1 : sgn (leN (fun j => F (at_ + j)) 0) 0 = 0 := rfl
    rw [e1]
    clear XB V eL e1
    go_enter Try.func54, Try.ntmps54
    go_wp2_with (fail)
    go_at_call 28
    refine (NU.out).mono ?_
    rintro e w1 ⟨rfl, hr, hb⟩
    have RR := Lib.hid hr; have BU := Lib.hid hb
    obtain ⟨p, c, hS, _⟩ := hr.ex
    have s2 := hS.at 2 _ rfl
    have Sl := hS.lt
    clear hS hr hb NU
    go_wp2_with (fail)
    go_ret
    exact ⟨rfl, RR.out, BU.out⟩
theorem REnd_any {S D N at_ : Nat} {er : Int} {F : Nat → Int} {w : World} (h : RRd w S D F N at_ er) : Calls Try.prog 30 #[.pointer (some ⟨S, 0, none⟩)] w fun e w' => e = .returned (.int .i64 (endE N at_ er)) ∧ ∃ m, w' = w.drewN m := by
  obtain ⟨p, c, hS, hby, hlc, hcm⟩ := h.ex
  have HS := Lib.hid hS
  have s0 := HS.out.at 0 _ rfl; have s1 := HS.out.at 1 _ rfl; have s2 := HS.out.at 2 _ rfl
  have f1 := HS.out.ok 1 (by simp); have f2 := HS.out.ok 2 (by simp); have Sl := HS.out.lt
  by_cases h0 : er = 0
  · subst h0
    by_cases hn : at_ < N
    · have e1 : endE N at_ 0 = 5 := by simp [endE, hn]
      have hni : (at_ : Int) < (N : Int) := by omega
      rw [e1]
      clear hS h hby hlc hcm e1
      go_enter Try.func30, Try.ntmps30
      go_wp2_with (fail)
      go_quiet (fail)
      go_wp2_with (fail)
      go_ret
      exact ⟨rfl, _, rfl⟩
    · have e1 : endE N at_ 0 = 0 := by simp [endE, hn]
      have hni : ¬(at_ : Int) < (N : Int) := by omega
      rw [e1]
      clear hS h hby hlc hcm e1
      go_enter Try.func30, Try.ntmps30
      go_wp2_with (fail)
      go_quiet (fail)
      go_wp2_with (fail)
      go_ret
      exact ⟨rfl, _, rfl⟩
  · have e1 : endE N at_ er = er := by simp [endE, h0]
    rw [e1]
    clear hS h hby hlc hcm e1
    go_enter Try.func30, Try.ntmps30
    go_wp2_with (fail)
    go_quiet (fail)
    go_wp2_with (fail)
    go_ret
    exact ⟨rfl, _, rfl⟩
end Go.Proofs.Ytnopcgkhoennfaa
