/- manifest: the document's Chunks; the masks. -/
import Derived.Test.YtapkhecebglnlaaDoorGA
import Derived.Test.YtapkhecebglnlaaDoorDA
namespace Go.Proofs.YtapkhecebglnlaaDoor
set_option linter.unusedVariables false
set_option maxRecDepth 2000
set_option linter.unusedSimpArgs false
open Go.RowKit
theorem chunk_at {n : Int} {k : Nat} (h1 : n ≤ 256 * (k : Int)) (h2 : k = 0 ∨ 256 * ((k : Int) - 1) < n) : chunkF n = k := by
  unfold chunkF
  split <;> omega
theorem chunk_far {n : Int} (h : 256000 < n) : chunkF n = n / 256 + min (n % 256) 1 := by
  unfold chunkF
  rw [if_neg (by omega)]
  omega
theorem RChunks_any (n : Int) (hn : -9223372036854775808 ≤ n ∧ n ≤ 9223372036854775807) (w : World) : Calls Tryd.prog 11 #[.int .i64 n] w fun e w' => e = .returned (.int .i64 (chunkF n)) ∧ w' = w := by
  have HN := Lib.hid hn
  clear hn
  go_enter Tryd.func11, Tryd.ntmps11
  go_wp2_with (fail)
  go_loopw [3] (fun iv wr => ∃ (k : Nat), k ≤ 1000 ∧ iv = .int .i64 k ∧ Hid (k = 0 ∨ 256 * ((k : Int) - 1) < n) ∧ w = wr) (fun iv _ => (1000 - (intOf iv).toNat))
  case atStart => exact ⟨0, Nat.zero_le _, rfl, Lib.hid (.inl rfl), rfl⟩
  case round =>
    obtain ⟨k, hk, rfl, HA, rfl⟩ := hrel
    have wk : IntKind.i64.wrap ((k : Int) + 1) = (k : Int) + 1 := IntWalk.i64_in _ (by omega)
    have w8 : IntKind.i64.wrap (256 * (k : Int)) = 256 * (k : Int) := IntWalk.i64_in _ (by omega)
    by_cases h1 : 256 * (k : Int) < n
    · have e1 : decide (256 * (k : Int) < n) = true := decide_eq_true h1
      by_cases h2 : k < 1000
      · have e2 : decide ((k : Int) < 1000) = true := decide_eq_true (by omega)
        have HLT := Lib.hid (show k + 1 ≤ 1000 by omega)
        have HX : Hid (k + 1 = 0 ∨ 256 * (((k + 1 : Nat) : Int) - 1) < n) := Lib.hid (.inr (by omega))
        clear h1 h2 hk
        go_wp2_with (fail)
        go_roundw
        case rel => exact ⟨k + 1, HLT.out, by go_num, HX, (by first | rfl | trivial)⟩
        case measure => (have := HLT.out; simp [intOf]; omega)
      · obtain rfl : k = 1000 := by omega
        have e2 : decide (((1000 : Nat) : Int) < 1000) = false := decide_eq_false (by omega)
        have HV := Lib.hid (chunk_far (n := n) (by omega))
        have t1 : n.tdiv 256 = n / 256 := Int.tdiv_eq_ediv_of_nonneg (by omega)
        have t2 : n.tmod 256 = n % 256 := Int.tmod_eq_emod_of_nonneg (by omega)
        have b1 := HN.out
        have r1 : IntKind.i64.wrap (n / 256) = n / 256 := IntWalk.i64_in _ (by omega)
        have r2 : IntKind.i64.wrap (n % 256) = n % 256 := IntWalk.i64_in _ (by omega)
        have r3 : IntKind.i64.wrap (n / 256 + min (n % 256) 1) = n / 256 + min (n % 256) 1 := IntWalk.i64_in _ (by omega)
        clear hk h2 HA
        go_wp2_with (fail)
        go_ret
        exact ⟨by rw [HV.out]; rfl, rfl⟩
    · have e1 : decide (256 * (k : Int) < n) = false := decide_eq_false h1
      have HV := Lib.hid (chunk_at (n := n) (k := k) (by omega) HA.out)
      clear h1 hk HA
      go_wp2_with (fail)
      go_ret
      exact ⟨by rw [HV.out]; rfl, rfl⟩
theorem index8 (g : Nat → Int) (k : Nat) (hk : k < 8) (w : World) : (Instr.index 24 (.agg #[.int .u8 (g 0), .int .u8 (g 1), .int .u8 (g 2), .int .u8 (g 3), .int .u8 (g 4), .int .u8 (g 5), .int .u8 (g 6), .int .u8 (g 7)]) (.int .i64 k)).run Tryd.prog w = .ok (.int .u8 (g k)) w := match k, hk with
  | 0, _ => by kernel_rfl
  | 1, _ => by kernel_rfl
  | 2, _ => by kernel_rfl
  | 3, _ => by kernel_rfl
  | 4, _ => by kernel_rfl
  | 5, _ => by kernel_rfl
  | 6, _ => by kernel_rfl
  | 7, _ => by kernel_rfl
def maskB (g : Nat → Int) : Bool := allB (fun j => decide (g j ≤ 15)) 8
theorem maskB_no {g : Nat → Int} {k : Nat} (hk : k < 8) (h : 15 < g k) : maskB g = false := allB_not hk (decide_eq_false (by omega))
theorem maskB_yes {g : Nat → Int} : maskB g = true ↔ ∀ j, j < 8 → g j ≤ 15 := by
  unfold maskB
  rw [allB_iff]
  exact ⟨fun h j hj => of_decide_eq_true (h j hj), fun h j hj => decide_eq_true (h j hj)⟩
set_option maxHeartbeats 4000000 in
theorem Masks_any (g : Nat → Int) (w : World) : Calls Tryd.prog 21 #[.agg #[.int .u8 (g 0), .int .u8 (g 1), .int .u8 (g 2), .int .u8 (g 3), .int .u8 (g 4), .int .u8 (g 5), .int .u8 (g 6), .int .u8 (g 7)]] w fun e w' => e = .returned (.bool (maskB g)) ∧ Below w.heap.size w w' := by
  have ix := Lib.hid (index8 g)
  have hA : Hid (Below w.heap.size w (w.alloc (.cells #[.int .u8 (g 0), .int .u8 (g 1), .int .u8 (g 2), .int .u8 (g 3), .int .u8 (g 4), .int .u8 (g 5), .int .u8 (g 6), .int .u8 (g 7)] 24))) := Lib.hid (Below.al (Below.refl _ _))
  go_enter Tryd.func21, Tryd.ntmps21
  go_wp2_with (fail)
  obtain ⟨w1, e1⟩ : ∃ x, x = (w.alloc (.cells #[.int .u8 (g 0), .int .u8 (g 1), .int .u8 (g 2), .int .u8 (g 3), .int .u8 (g 4), .int .u8 (g 5), .int .u8 (g 6), .int .u8 (g 7)] 24)) := ⟨_, rfl⟩
  rw [← e1] at hA ⊢
  clear e1
  go_loopw [4, 6] (fun _ iv wr => ∃ (k : Nat), k ≤ 8 ∧ iv = .int .i64 k ∧ Hid (∀ j, j < k → g j ≤ 15) ∧ w1 = wr) (fun _ iv _ => (8 - (intOf iv).toNat))
  case atStart => exact ⟨0, Nat.zero_le _, rfl, Lib.hid (fun j hj => absurd hj (Nat.not_lt_zero j)), rfl⟩
  case round =>
    obtain ⟨k, hk, rfl, HA, rfl⟩ := hrel
    by_cases hlt : k < 8
    · have hx := ix.out k hlt
      by_cases hb : 15 < g k
      · have HV := Lib.hid (maskB_no hlt hb)
        have e1 : decide (15 < g k) = true := decide_eq_true hb
        generalize g k = x at hx e1
        clear hb ix HA
        go_wp2_with (fail)
        go_ret
        exact ⟨by rw [HV.out]; rfl, hA.out⟩
      · have e1 : decide (15 < g k) = false := decide_eq_false hb
        have HX : Hid (∀ j, j < k + 1 → g j ≤ 15) := Lib.hid fun j hj => by
          by_cases e : j < k
          · exact HA.out j e
          · obtain rfl : j = k := by omega
            omega
        have HLT := Lib.hid (show k + 1 ≤ 8 by omega)
        have wk : IntKind.i64.wrap ((k : Int) + 1) = (k : Int) + 1 := IntWalk.i64_in _ (by omega)
        generalize g k = x at hx e1
        clear hb ix HA
        go_wp2_with (fail)
        go_roundw
        case rel => exact ⟨k + 1, HLT.out, by go_num, HX, (by first | rfl | trivial)⟩
        case measure => (have := HLT.out; simp [intOf]; omega)
    · obtain rfl : k = 8 := by omega
      have HV : Hid (maskB g = true) := Lib.hid (maskB_yes.2 HA.out)
      clear hlt hk HA ix
      go_wp2_with (fail)
      go_ret
      exact ⟨by rw [HV.out]; rfl, hA.out⟩
end Go.Proofs.YtapkhecebglnlaaDoor
