/- A word out of memory, and the document's. -/
import Derived.Test.YtbepgbpmgiihbaaDoorCD
import Derived.LoopN
import Derived.LoopTactic
namespace Go.Proofs.YtbepgbpmgiihbaaDoor
set_option linter.unusedVariables false
set_option maxRecDepth 2000
set_option linter.unusedSimpArgs false
open Go.RowKit
theorem conv_u8 (b : Int) (h : inB b) : b % 4294967296 = b ∧ IntKind.u32.wrap b = b := by
  unfold inB at h
  rw [IntKind.wrap_u32']
  omega

theorem number_any (K o n c : Nat) (b0 b1 b2 b3 : Int) (h0 : inB b0) (h1 : inB b1) (h2 : inB b2) (h3 : inB b3) (hn : 4 ≤ n) (w : World) (hk : Has K o [.int .u8 b0, .int .u8 b1, .int .u8 b2, .int .u8 b3] w) :
    Calls Tryd.prog 25 #[.slice (some ⟨K, o, none⟩) n c] w fun e w' => e = .returned (.int .u32 (b0 + 256 * b1 + 65536 * b2 + 16777216 * b3)) ∧ Below w.heap.size w w' := by
  have hw := Lib.hid (word_or' b0 b1 b2 b3 h0 h1 h2 h3)
  have k0 := hk.at 0 _ rfl; have k1 := hk.at 1 _ rfl; have k2 := hk.at 2 _ rfl; have k3 := hk.at 3 _ rfl
  rw [Nat.add_zero] at k0
  have n0 : (0 : Int) < (n : Int) := by omega
  have N0 : 0 < n := by omega
  have n1 : (1 : Int) < (n : Int) := by omega
  have n2 : (2 : Int) < (n : Int) := by omega
  have n3 : (3 : Int) < (n : Int) := by omega
  have v0 := (conv_u8 b0 h0).1; have v1 := (conv_u8 b1 h1).1; have v2 := (conv_u8 b2 h2).1; have v3 := (conv_u8 b3 h3).1
  have q0 := (conv_u8 b0 h0).2; have q1 := (conv_u8 b1 h1).2; have q2 := (conv_u8 b2 h2).2; have q3 := (conv_u8 b3 h3).2
  clear hk hn h0 h1 h2 h3
  go_enter Tryd.func25, Tryd.ntmps25
  go_wp2_with (fail)
  go_quiet (fail)
  have hBd : Below w.heap.size w (w.drewN nq) := below_drewN (Below.refl _ _) _
  go_wp2_with (fail)
  exact bodyPost_ret (v := .int .u32 (b0 + 256 * b1 + 65536 * b2 + 16777216 * b3)) (by simp [results, Tryd.results25, IntKind.wrap_u32', hw.out]) rfl ⟨rfl, hBd⟩

theorem RNumber_any (K o n c : Nat) (b0 b1 b2 b3 : Int) (h0 : inB b0) (h1 : inB b1) (h2 : inB b2) (h3 : inB b3) (hn : 4 ≤ n) (w : World) (hk : Has K o [.int .u8 b0, .int .u8 b1, .int .u8 b2, .int .u8 b3] w) :
    Calls Tryd.prog 15 #[.slice (some ⟨K, o, none⟩) n c] w fun e w' => e = .returned (.int .u32 (b0 + 256 * b1 + 65536 * b2 + 16777216 * b3)) ∧ Below w.heap.size w w' := by
  have k0 := hk.at 0 _ rfl; have k1 := hk.at 1 _ rfl; have k2 := hk.at 2 _ rfl; have k3 := hk.at 3 _ rfl
  rw [Nat.add_zero] at k0
  have n0 : (0 : Int) < (n : Int) := by omega
  have N0 : 0 < n := by omega
  have n1 : (1 : Int) < (n : Int) := by omega
  have n2 : (2 : Int) < (n : Int) := by omega
  have n3 : (3 : Int) < (n : Int) := by omega
  have v0 := (conv_u8 b0 h0).1; have v1 := (conv_u8 b1 h1).1; have v2 := (conv_u8 b2 h2).1; have v3 := (conv_u8 b3 h3).1
  have q0 := (conv_u8 b0 h0).2; have q1 := (conv_u8 b1 h1).2; have q2 := (conv_u8 b2 h2).2; have q3 := (conv_u8 b3 h3).2
  unfold inB at h0 h1 h2 h3
  obtain ⟨m3, f3⟩ : ∃ z, b3 = z := ⟨_, rfl⟩
  obtain ⟨m2, f2⟩ : ∃ z, 256 * b3 + b2 = z := ⟨_, rfl⟩
  obtain ⟨m1, f1⟩ : ∃ z, 65536 * b3 + 256 * b2 + b1 = z := ⟨_, rfl⟩
  obtain ⟨m0, f0⟩ : ∃ z, b0 + 256 * b1 + 65536 * b2 + 16777216 * b3 = z := ⟨_, rfl⟩
  have s2 : (b3 * 256 % 4294967296 + b2) % 4294967296 = m2 := by omega
  have s1 : (m2 * 256 % 4294967296 + b1) % 4294967296 = m1 := by omega
  have s0 : (m1 * 256 % 4294967296 + b0) % 4294967296 = m0 := by omega
  have t2 : (b3 * 256 + b2) % 4294967296 = m2 := by omega
  have t1 : (m2 * 256 + b1) % 4294967296 = m1 := by omega
  have t0 : (m1 * 256 + b0) % 4294967296 = m0 := by omega
  rw [f0]
  clear hk hn h0 h1 h2 h3 f0 f1 f2 f3
  go_enter Tryd.func15, Tryd.ntmps15
  go_wp2_with (fail)
  refine wp_loop_rounds 5 ?_
  rw [rounds_succ]
  go_wp2_with (fail)
  rw [rounds_succ]
  go_wp2_with (fail)
  rw [rounds_succ]
  go_wp2_with (fail)
  rw [rounds_succ]
  go_wp2_with (fail)
  rw [rounds_succ]
  go_wp2_with (fail)
  exact bodyPost_ret (v := .int .u32 m0) (by simp [results, Tryd.results15, go_sem, t0]) rfl ⟨rfl, Below.refl _ _⟩
end Go.Proofs.YtbepgbpmgiihbaaDoor
