/- mesh: faults, and each of them. -/
import Derived.Test.YtnopcgkhoennfaaSC
import Derived.Lib.Hide
import Derived.LoopN
import Derived.LoopTactic
import Derived.Deep.Onto
import Derived.Deep.RegionHeld3
import Derived.Deep.QuietTactic
import Derived.BigQuiet
namespace Go.Proofs.Ytnopcgkhoennfaa
set_option linter.unusedVariables false
set_option maxRecDepth 2000
set_option linter.unusedSimpArgs false
open Go.RowKit
set_option maxHeartbeats 4000000 in
theorem faults_any (M : Msh) (w : World) : Calls Try.prog 23 #[(.agg #[.slice M.qv M.nv M.cv, .slice M.qu M.nu M.cu, .slice M.qt M.nt M.ct])] w fun e w' => ∃ B L, e = .returned (.slice (some ⟨L, 0, none⟩) 5 5) ∧ Has B 0 [.slice M.qv M.nv M.cv, .slice M.qu M.nu M.cu, .slice M.qt M.nt M.ct] w' ∧ Has L 0 [.func (.func 36) #[] #[.pointer (some ⟨B, 0, none⟩)], .int .i64 3, .func (.func 37) #[] #[.pointer (some ⟨B, 0, none⟩)], .int .i64 5, .func (.func 38) #[] #[.pointer (some ⟨B, 0, none⟩)], .int .i64 8, .func (.func 41) #[] #[.pointer (some ⟨B, 0, none⟩)], .int .i64 5, .func (.func 44) #[] #[.pointer (some ⟨B, 0, none⟩)], .int .i64 5] w' ∧ Below w.heap.size w w' := by
  have hmf : ∀ (fn : Fn) (first cap : Array Value) (w : World), (Instr.makeFunc fn first cap).run Try.prog w = .ok (.func fn first cap) w := fun _ _ _ _ => rfl
  go_enter Try.func23, Try.ntmps23
  go_wp2_with (fail)
  go_ret
  exact ⟨w.heap.size, w.heap.size + 1, rfl, ((Own.newAt (b := w.heap.size) rfl).alloc).has, (Own.newAt (by simp)).has, Below.al (Below.al (Below.refl _ _))⟩
theorem ret_bool2 {b c : Bool} (h : c = true ↔ b = true) : Ending.returned (.bool b) = Ending.returned (.bool c) := by
  cases b <;> cases c <;> simp at h ⊢
set_option maxHeartbeats 2000000 in
theorem fault1_any (M : Msh) (B : Nat) (w : World) (hB : Has B 0 [.slice M.qv M.nv M.cv, .slice M.qu M.nu M.cu, .slice M.qt M.nt M.ct] w) : Calls Try.prog 36 #[.pointer (some ⟨B, 0, none⟩)] w fun e w' => e = .returned (.bool (decide (64 < M.nv ∨ 64 < M.nt))) ∧ w' = w := by
  have E := Lib.hid (@decide_eq_true_iff ((64 < M.nv ∨ 64 < M.nt)) _)
  generalize decide (64 < M.nv ∨ 64 < M.nt) = b at *
  have B0 := hB.at 0 _ rfl
  have B2 := hB.at 2 _ rfl
  have Bl := hB.lt
  clear hB
  go_enter Try.func36, Try.ntmps36
  go_wp2_with (fail)
  all_goals (go_ret; exact ⟨ret_bool2 (by rw [E.out]; simp; omega), rfl⟩)
set_option maxHeartbeats 2000000 in
theorem fault2_any (M : Msh) (B : Nat) (w : World) (hB : Has B 0 [.slice M.qv M.nv M.cv, .slice M.qu M.nu M.cu, .slice M.qt M.nt M.ct] w) : Calls Try.prog 37 #[.pointer (some ⟨B, 0, none⟩)] w fun e w' => e = .returned (.bool (decide (M.nv = 0 ∨ M.nt = 0 ∨ M.nu ≠ M.nv))) ∧ w' = w := by
  have E := Lib.hid (@decide_eq_true_iff ((M.nv = 0 ∨ M.nt = 0 ∨ M.nu ≠ M.nv)) _)
  generalize decide (M.nv = 0 ∨ M.nt = 0 ∨ M.nu ≠ M.nv) = b at *
  have B0 := hB.at 0 _ rfl
  have B1 := hB.at 1 _ rfl
  have B2 := hB.at 2 _ rfl
  have Bl := hB.lt
  clear hB
  go_enter Try.func37, Try.ntmps37
  go_wp2_with (fail)
  all_goals (go_ret; exact ⟨ret_bool2 (by rw [E.out]; simp; omega), rfl⟩)
set_option maxHeartbeats 2000000 in
theorem fault3_any (M : Msh) (B : Nat) (w : World) (hB : Has B 0 [.slice M.qv M.nv M.cv, .slice M.qu M.nu M.cu, .slice M.qt M.nt M.ct] w) (hM : MeshAt M w) : Calls Try.prog 38 #[.pointer (some ⟨B, 0, none⟩)] w fun e w' => e = .returned (.bool (!allB (okPs M.V) M.nv)) ∧ Below w.heap.size w w' := by
  have F := Lib.hid (ContP_any M.qv M.nv M.cv M.V hM.lv hM.mv w hM.v)
  have B0 := hB.at 0 _ rfl
  have Bl := hB.lt
  clear hB hM
  go_enter Try.func38, Try.ntmps38
  go_wp2_with (fail)
  go_at_call 39
  refine F.out.mono ?_
  rintro e w1 ⟨rfl, hb⟩
  clear F
  go_wp2_with (fail)
  go_ret
  exact ⟨rfl, hb⟩
set_option maxHeartbeats 2000000 in
theorem fault4_any (M : Msh) (B : Nat) (w : World) (hB : Has B 0 [.slice M.qv M.nv M.cv, .slice M.qu M.nu M.cu, .slice M.qt M.nt M.ct] w) (hM : MeshAt M w) : Calls Try.prog 41 #[.pointer (some ⟨B, 0, none⟩)] w fun e w' => e = .returned (.bool (!allB (okUs M.U) M.nu)) ∧ Below w.heap.size w w' := by
  have F := Lib.hid (ContU_any M.qu M.nu M.cu M.U hM.lu hM.mu w hM.u)
  have B1 := hB.at 1 _ rfl
  have Bl := hB.lt
  clear hB hM
  go_enter Try.func41, Try.ntmps41
  go_wp2_with (fail)
  go_at_call 42
  refine F.out.mono ?_
  rintro e w1 ⟨rfl, hb⟩
  clear F
  go_wp2_with (fail)
  go_ret
  exact ⟨rfl, hb⟩
set_option maxHeartbeats 2000000 in
theorem fault5_any (M : Msh) (B : Nat) (w : World) (hB : Has B 0 [.slice M.qv M.nv M.cv, .slice M.qu M.nu M.cu, .slice M.qt M.nt M.ct] w) (hM : MeshAt M w) : Calls Try.prog 44 #[.pointer (some ⟨B, 0, none⟩)] w fun e w' => e = .returned (.bool (!allB (okTs M.nv M.R) M.nt)) ∧ Below w.heap.size w w' := by
  have F := Lib.hid (ContT_any M.qt M.nt M.ct M.R B M.nv M.cv M.qv hM.lt hM.mt w hM.t ⟨hB.lt, fun j v hj => hB.cell j v (by cases j with | zero => exact hj | succ j => cases hj)⟩)
  have hmf : ∀ (fn : Fn) (first cap : Array Value) (w : World), (Instr.makeFunc fn first cap).run Try.prog w = .ok (.func fn first cap) w := fun _ _ _ _ => rfl
  have B2 := hB.at 2 _ rfl
  have Bl := hB.lt
  clear hB hM
  go_enter Try.func44, Try.ntmps44
  go_wp2_with (fail)
  go_at_call 45
  refine F.out.mono ?_
  rintro e w1 ⟨rfl, hb⟩
  clear F
  go_wp2_with (fail)
  go_ret
  exact ⟨rfl, hb⟩
end Go.Proofs.Ytnopcgkhoennfaa
