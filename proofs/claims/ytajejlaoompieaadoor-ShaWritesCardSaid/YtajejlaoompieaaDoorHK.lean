/- Write of a Hash; New. -/
import Derived.Test.YtajejlaoompieaaDoorHJ
import Derived.Lib.Hide
import Derived.LoopN
import Derived.LoopTactic
import Derived.Deep.Onto
import Derived.Deep.QuietTactic
import Derived.Deep.WholeRow
namespace Go.Proofs.YtajejlaoompieaaDoor
set_option linter.unusedVariables false
set_option maxRecDepth 2000
set_option linter.unusedSimpArgs false
open Go.RowKit
attribute [local go_sem] nums_length
set_option maxHeartbeats 4000000 in
theorem Write_any (K np cp : Nat) (P_ : Option Addr) (g : Nat → Int) (T : Nat → Nat) (hT : ∀ k, k ≤ np → T k ≤ 1000000) (hnp : np ≤ cp) (hcp : cp ≤ 9223372036854775807) (hK0 : K ≠ 0) (hg : ∀ k, k ≤ np → ∀ j, j < T k → inB (g j)) (w : World) (hG : Has 0 0 (nums .u32 kC 64) w) (hK : Own K (stateH g (T 0)) w) (hP : PartsN w P_ np g T K) :
    Calls Tryd.prog 24 #[.pointer (some ⟨K, 0, none⟩), .slice P_ np cp] w fun e w' => e = .returned (.tuple #[]) ∧ Own K (stateH g (T np)) w' ∧ But K w w' := by
  have HG := Lib.hid hG; have HK := Lib.hid hK; have HP := Lib.hid hP; have IG := Lib.hid hg; have HT := Lib.hid hT
  have HNP := Lib.hid hnp; have HCP := Lib.hid hcp
  have n0K : 0 ≠ K := Ne.symm hK0
  have BU := Lib.hid (But.refl K w)
  have k73 := hK.at 73 _ (hash_made _ _ _)
  have Kl := hK.lt
  clear hG hK hP hg hT hnp hcp
  go_enter Tryd.func24, Tryd.ntmps24
  go_wp2_with (fail)
  go_loopw [17] (fun iv wr => ∃ (k : Nat), k ≤ np ∧ iv = .int .i64 k ∧ Hid (Own K (stateH g (T k)) wr) ∧ Hid (But K w wr)) (fun iv _ => (np - (intOf iv).toNat))
  case atStart => exact ⟨0, Nat.zero_le _, rfl, HK, BU⟩
  case round =>
    clear HK BU k73 Kl
    obtain ⟨k, hk, rfl, HK, BU⟩ := hrel
    by_cases hlt : k < np
    · obtain ⟨D, o, q, m, c, rfl, hDK, hD, hcell, hmc, hcx, hTk, hby⟩ := (HP.out.but BU.out) k hlt
      have BYq := Lib.hid hby
      have HGr := Lib.hid (HG.out.but BU.out n0K)
      have hki : (k : Int) < (np : Int) := by omega
      have k0 : (0 : Int) ≤ (k : Int) := by omega
      have wk : IntKind.i64.wrap ((k : Int) + 1) = (k : Int) + 1 := IntWalk.i64_in _ (by have := HNP.out; have := HCP.out; omega)
      have TC := Lib.hid (fun w h1 h2 h3 => take_any K m c (T k) q g hmc hcx (by rw [← hTk]; exact HT.out (k + 1) (by omega)) hK0 (by rw [← hTk]; exact IG.out (k + 1) (by omega)) w h1 h2 h3)
      have HTk := Lib.hid hTk
      have HLT := Lib.hid hlt
      clear hk hlt hby hTk hDK hmc hcx
      go_wp2_with (fail)
      go_at_call 31
      refine (TC.out _ HGr.out HK.out BYq.out).mono ?_
      rintro e w1 ⟨rfl, hK1, hB1⟩
      have O1 := Lib.hid (show Own K (stateH g (T (k + 1))) w1 by rw [HTk.out]; exact hK1)
      have O2 := Lib.hid (BU.out.trans hB1)
      clear hK1 hB1 HK BU TC BYq HGr
      go_wp2_with (fail)
      go_roundw
      case rel => (first | exact ⟨k + 1, HLT.out, by go_num, O1, O2⟩ | ((repeat apply Exists.intro); exact ⟨⟨k + 1, HLT.out, by go_num, O1, O2⟩, rfl⟩))
      case measure => (have := HLT.out; simp [intOf]; omega)
    · obtain rfl : k = np := by omega
      clear hk hlt
      go_wp2_with (fail)
      refine bodyPost_end (results_none rfl _ _ _) rfl ?_
      exact ⟨rfl, HK.out, BU.out⟩

theorem Write_nil (np cp : Nat) (P_ : Option Addr) (w : World) : Calls Tryd.prog 24 #[.pointer none, .slice P_ np cp] w fun e w' => e = .returned (.tuple #[]) ∧ w' = w := by
  go_enter Tryd.func24, Tryd.ntmps24
  go_wp2_with (fail)
  exact bodyPost_ret (v := .tuple #[]) (results_none rfl _ _ _) rfl ⟨rfl, rfl⟩
theorem Write_unmade (K np cp : Nat) (P_ : Option Addr) (w : World) (hK : w.cell? ⟨K, 73, none⟩ = some (.bool false)) : Calls Tryd.prog 24 #[.pointer (some ⟨K, 0, none⟩), .slice P_ np cp] w fun e w' => e = .returned (.tuple #[]) ∧ w' = w := by
  have Kl : K < w.heap.size := by
    rcases Nat.lt_or_ge K w.heap.size with h | h
    · exact h
    · simp [World.cell?, Array.getElem?_eq_none h] at hK
  go_enter Tryd.func24, Tryd.ntmps24
  go_wp2_with (fail)
  exact bodyPost_ret (v := .tuple #[]) (results_none rfl _ _ _) rfl ⟨rfl, rfl⟩
theorem New_any (w : World) (h1 : Has 1 0 (nums .u32 hC 8) w) : Calls Tryd.prog 23 #[] w fun e w' => ∃ K, e = .returned (.pointer (some ⟨K, 0, none⟩)) ∧ w.heap.size ≤ K ∧ Own K (hashC hC (fun _ => 0) 0) w' ∧ Below w.heap.size w w' := by
  have H1 := Lib.hid h1
  clear h1
  go_enter Tryd.func23, Tryd.ntmps23
  go_upto_region 1 with fail
  refine wp_region_lit ?_
  refine wpList_load_mid rfl 28 _ rfl 1 0 rfl (nums .u32 hC 8) _ H1.out.cell Tryd.underlying28 rfl (by kernel_rfl) ?_
  refine wpList_val rfl (.agg (hashC hC (fun _ => 0) 0).toArray) (by kernel_rfl) ?_
  go_wp2_with (fail)
  go_ret
  exact ⟨w.heap.size, rfl, Nat.le_refl _, Own.newAt rfl, Below.al (Below.refl _ _)⟩
end Go.Proofs.YtajejlaoompieaaDoor
