/- codec: the document's Reader: Int, Left, End. -/
import Derived.Test.YtbhdlpndmbhaiaaDO
import Derived.Lib.Hide
import Derived.Deep.Onto
import Derived.Deep.QuietTactic
import Derived.BigQuiet
namespace Go.Proofs.Ytbhdlpndmbhaiaa
set_option linter.unusedVariables false
set_option maxRecDepth 2000
set_option linter.unusedSimpArgs false
open Go.RowKit
attribute [local go_sem] nums_length

theorem REnd_any {S D N at_ : Nat} {er : Int} {F : Nat → Int} {w : World} (h : RRd w S D F N at_ er) : Calls Try.prog 34 #[.pointer (some ⟨S, 0, none⟩)] w fun e w' => e = .returned (.int .i64 (endE N at_ er)) ∧ ∃ m, w' = w.drewN m := by
  obtain ⟨p, c, hS, hby, hlc, hcm⟩ := h.ex
  have HS := Lib.hid hS
  have s0 := HS.out.at 0 _ rfl; have s1 := HS.out.at 1 _ rfl; have s2 := HS.out.at 2 _ rfl
  have f1 := HS.out.ok 1 (by simp); have f2 := HS.out.ok 2 (by simp); have Sl := HS.out.lt
  by_cases h0 : er = 0
  · subst h0
    by_cases hn : at_ < N
    · have e1 : endE N at_ 0 = 5 := by simp [endE, hn]
      have hni : (at_ : Int) < (N : Int) := by omega
      rw [e1]
      clear hS h hby hlc hcm e1
      go_enter Try.func34, Try.ntmps34
      go_wp2_with (fail)
      go_quiet (fail)
      go_wp2_with (fail)
      go_ret
      exact ⟨rfl, _, rfl⟩
    · have e1 : endE N at_ 0 = 0 := by simp [endE, hn]
      have hni : ¬(at_ : Int) < (N : Int) := by omega
      rw [e1]
      clear hS h hby hlc hcm e1
      go_enter Try.func34, Try.ntmps34
      go_wp2_with (fail)
      go_quiet (fail)
      go_wp2_with (fail)
      go_ret
      exact ⟨rfl, _, rfl⟩
  · have e1 : endE N at_ er = er := by simp [endE, h0]
    rw [e1]
    clear hS h hby hlc hcm e1
    go_enter Try.func34, Try.ntmps34
    go_wp2_with (fail)
    go_quiet (fail)
    go_wp2_with (fail)
    go_ret
    exact ⟨rfl, _, rfl⟩
end Go.Proofs.Ytbhdlpndmbhaiaa
