/- sha.Hex. -/
import Derived.Test.YtajejlaoompieaaDoorHB
import Derived.Test.YtajejlaoompieaaDoorHU
import Derived.Lib.Hide
import Derived.LoopN
import Derived.LoopTactic
import Derived.Deep.Onto
import Derived.Deep.RegionHeld3
import Derived.Deep.QuietTactic
import Derived.BigQuiet
import Derived.Laws.BitsLemmas
import Derived.Deep.WholeRow
namespace Go.Proofs.YtajejlaoompieaaDoor
set_option linter.unusedVariables false
set_option maxRecDepth 2000
set_option linter.unusedSimpArgs false
open Go.RowKit
def hexS (f : Nat → Int) (n : Nat) : ByteArray := strOfNums ((List.range n).map (hexF f))
theorem index_dig (h : Nat) (hh : h < 16) (w : World) : (Instr.index 9 (.string { data := #[48, 49, 50, 51, 52, 53, 54, 55, 56, 57, 97, 98, 99, 100, 101, 102] }) (.int .u8 (h : Nat))).run Tryd.prog w = .ok (.int .u8 (digF (h : Nat))) w := match h, hh with
  | 0, _ => by kernel_rfl
  | 1, _ => by kernel_rfl
  | 2, _ => by kernel_rfl
  | 3, _ => by kernel_rfl
  | 4, _ => by kernel_rfl
  | 5, _ => by kernel_rfl
  | 6, _ => by kernel_rfl
  | 7, _ => by kernel_rfl
  | 8, _ => by kernel_rfl
  | 9, _ => by kernel_rfl
  | 10, _ => by kernel_rfl
  | 11, _ => by kernel_rfl
  | 12, _ => by kernel_rfl
  | 13, _ => by kernel_rfl
  | 14, _ => by kernel_rfl
  | 15, _ => by kernel_rfl
  | n + 16, h => absurd h (by omega)
theorem index_b32 (s : Nat → Int) (k : Nat) (hk : k < 32) (w : World) : (Instr.index 35 (.agg (nums .u8 s 32).toArray) (.int .i64 k)).run Tryd.prog w = .ok (.int .u8 (s k)) w := match k, hk with
  | 0, _ => by kernel_rfl
  | 1, _ => by kernel_rfl
  | 2, _ => by kernel_rfl
  | 3, _ => by kernel_rfl
  | 4, _ => by kernel_rfl
  | 5, _ => by kernel_rfl
  | 6, _ => by kernel_rfl
  | 7, _ => by kernel_rfl
  | 8, _ => by kernel_rfl
  | 9, _ => by kernel_rfl
  | 10, _ => by kernel_rfl
  | 11, _ => by kernel_rfl
  | 12, _ => by kernel_rfl
  | 13, _ => by kernel_rfl
  | 14, _ => by kernel_rfl
  | 15, _ => by kernel_rfl
  | 16, _ => by kernel_rfl
  | 17, _ => by kernel_rfl
  | 18, _ => by kernel_rfl
  | 19, _ => by kernel_rfl
  | 20, _ => by kernel_rfl
  | 21, _ => by kernel_rfl
  | 22, _ => by kernel_rfl
  | 23, _ => by kernel_rfl
  | 24, _ => by kernel_rfl
  | 25, _ => by kernel_rfl
  | 26, _ => by kernel_rfl
  | 27, _ => by kernel_rfl
  | 28, _ => by kernel_rfl
  | 29, _ => by kernel_rfl
  | 30, _ => by kernel_rfl
  | 31, _ => by kernel_rfl
  | n + 32, h => absurd h (by omega)
attribute [local go_sem] nums_length

set_option maxHeartbeats 4000000 in
theorem Hex_any (f : Nat → Int) (hf : ∀ j, j < 32 → inB (f j)) (w : World) : Calls Tryd.prog 21 #[(.agg (nums .u8 f 32).toArray)] w fun e w' => e = .returned (.string (hexS f 64)) ∧ Below w.heap.size w w' := by
  have IF := Lib.hid hf
  clear hf
  go_enter Tryd.func21, Tryd.ntmps21
  go_upto_region 2 with fail
  obtain ⟨W0, hW⟩ : ∃ W0, W0 = ((w.alloc (.cells (nums .u8 f 32).toArray 35)).alloc (.cells #[.int .u8 0, .int .u8 0, .int .u8 0, .int .u8 0, .int .u8 0, .int .u8 0, .int .u8 0, .int .u8 0, .int .u8 0, .int .u8 0, .int .u8 0, .int .u8 0, .int .u8 0, .int .u8 0, .int .u8 0, .int .u8 0, .int .u8 0, .int .u8 0, .int .u8 0, .int .u8 0, .int .u8 0, .int .u8 0, .int .u8 0, .int .u8 0, .int .u8 0, .int .u8 0, .int .u8 0, .int .u8 0, .int .u8 0, .int .u8 0, .int .u8 0, .int .u8 0, .int .u8 0, .int .u8 0, .int .u8 0, .int .u8 0, .int .u8 0, .int .u8 0, .int .u8 0, .int .u8 0, .int .u8 0, .int .u8 0, .int .u8 0, .int .u8 0, .int .u8 0, .int .u8 0, .int .u8 0, .int .u8 0, .int .u8 0, .int .u8 0, .int .u8 0, .int .u8 0, .int .u8 0, .int .u8 0, .int .u8 0, .int .u8 0, .int .u8 0, .int .u8 0, .int .u8 0, .int .u8 0, .int .u8 0, .int .u8 0, .int .u8 0, .int .u8 0] 29)) := ⟨_, rfl⟩
  have hB0 : Below w.heap.size w W0 := hW ▸ (Below.al (Below.al (Below.refl _ _)))
  have HS : Hid (Own w.heap.size (nums .u8 f 32) W0) := Lib.hid (hW ▸ (show Own w.heap.size (nums .u8 f 32) (w.alloc (.cells (nums .u8 f 32).toArray 35)) from Own.newAt (by simp)).alloc)
  have HT : Hid (Own (w.heap.size + 1) (nums .u8 (upto (hexF f) 0) 64) W0) := Lib.hid (hW ▸ (show Own (w.heap.size + 1) (nums .u8 (upto (hexF f) 0) 64) ((w.alloc (.cells (nums .u8 f 32).toArray 35)).alloc (.cells #[.int .u8 0, .int .u8 0, .int .u8 0, .int .u8 0, .int .u8 0, .int .u8 0, .int .u8 0, .int .u8 0, .int .u8 0, .int .u8 0, .int .u8 0, .int .u8 0, .int .u8 0, .int .u8 0, .int .u8 0, .int .u8 0, .int .u8 0, .int .u8 0, .int .u8 0, .int .u8 0, .int .u8 0, .int .u8 0, .int .u8 0, .int .u8 0, .int .u8 0, .int .u8 0, .int .u8 0, .int .u8 0, .int .u8 0, .int .u8 0, .int .u8 0, .int .u8 0, .int .u8 0, .int .u8 0, .int .u8 0, .int .u8 0, .int .u8 0, .int .u8 0, .int .u8 0, .int .u8 0, .int .u8 0, .int .u8 0, .int .u8 0, .int .u8 0, .int .u8 0, .int .u8 0, .int .u8 0, .int .u8 0, .int .u8 0, .int .u8 0, .int .u8 0, .int .u8 0, .int .u8 0, .int .u8 0, .int .u8 0, .int .u8 0, .int .u8 0, .int .u8 0, .int .u8 0, .int .u8 0, .int .u8 0, .int .u8 0, .int .u8 0, .int .u8 0] 29)) from Own.newAt (by simp)))
  rw [← hW]
  clear hW
  obtain ⟨T, eT⟩ : ∃ X, X = (w.heap.size + 1) := ⟨_, rfl⟩
  rw [← eT] at HT ⊢
  have Tw : w.heap.size ≤ T := by omega
  obtain ⟨S, eS⟩ : ∃ X, X = w.heap.size := ⟨_, rfl⟩
  rw [← eS] at HS ⊢
  have Sw : w.heap.size ≤ S := by omega
  have nST : S ≠ T := by omega
  have nTS : T ≠ S := by omega
  clear eS eT
  refine wp_region_lit ?_
  refine wpList_load_mid rfl 35 _ rfl S 0 rfl (nums .u8 f 32) _ HS.out.cell Tryd.underlying35 rfl (by kernel_rfl) ?_
  go_wp2_with (fail)
  clear HS
  go_loopw [7] (fun iv wr => ∃ (k : Nat), k ≤ 32 ∧ iv = .int .i64 k ∧ Hid (Below w.heap.size w wr) ∧ Hid (Own T (nums .u8 (upto (hexF f) (2 * k)) 64) wr)) (fun iv _ => (32 - (intOf iv).toNat))
  case atStart => exact ⟨0, Nat.zero_le _, rfl, Lib.hid hB0, HT⟩
  case round =>
    clear HT hB0
    obtain ⟨k, hk, rfl, HB, HT⟩ := hrel
    by_cases hlt : k < 32
    · obtain ⟨a, ea⟩ : ∃ a, 2 * k = a := ⟨_, rfl⟩
      obtain ⟨b, eb⟩ : ∃ b, a + 1 = b := ⟨_, rfl⟩
      have hx := index_b32 f k hlt wr
      have IX := IF.out k hlt
      have E1 : hexF f a = digF (f k / 16) := by unfold hexF; rw [if_pos (by omega), show a / 2 = k by omega]
      have E2 : hexF f b = digF (f k % 16) := by unfold hexF; rw [if_neg (by omega), show b / 2 = k by omega]
      obtain ⟨x, ex⟩ : ∃ x, f k = x := ⟨_, rfl⟩
      rw [ex] at hx IX E1 E2
      obtain ⟨h, eh⟩ : ∃ h : Nat, x / 16 = (h : Int) := ⟨(x / 16).toNat, by unfold inB at IX; omega⟩
      obtain ⟨l, el⟩ : ∃ l : Nat, x % 16 = (l : Int) := ⟨(x % 16).toNat, by omega⟩
      have el2 : bits .and .u8 x 15 = (l : Int) := (u8_and15 x IX.1 IX.2).trans el
      have hh : h < 16 := by unfold inB at IX; omega
      have hl : l < 16 := by omega
      have d1 := fun w => index_dig h hh w
      have d2 := fun w => index_dig l hl w
      rw [eh] at E1
      rw [el] at E2
      obtain ⟨y, ey⟩ : ∃ y, digF (h : Int) = y := ⟨_, rfl⟩
      obtain ⟨z, ez⟩ : ∃ z, digF (l : Int) = z := ⟨_, rfl⟩
      rw [ey] at E1
      rw [ez] at E2
      simp only [ey] at d1
      simp only [ez] at d2
      rw [ea] at HT
      have XS1 := upto_step .u8 (hexF f) a 64 y E1.symm
      have XS2 := upto_step .u8 (hexF f) b 64 z E2.symm
      rw [show a + 1 = b from eb] at XS1
      have F1 := HT.out.ok a (by rw [nums_length]; omega)
      have F2 := HT.out.ok b (by rw [nums_length]; omega)
      have C1 := HT.out.at a _ (nums_at .u8 _ (show a < 64 by omega))
      have C2 := HT.out.at b _ (nums_at .u8 _ (show b < 64 by omega))
      have Tl := HT.out.lt
      have O1 := own_set (v := y) HT.out (show a < 64 by omega)
      rw [XS1] at O1
      have O2 := own_set (v := z) O1 (show b < 64 by omega)
      rw [XS2, show b + 1 = 2 * (k + 1) by omega] at O2
      have O3 := Lib.hid (show Own T (nums .u8 (upto (hexF f) (2 * (k + 1))) 64) (World.drew ((wr.setCell ⟨T, a, none⟩ (.int .u8 y)).setCell ⟨T, b, none⟩ (.int .u8 z))) from O2.drew)
      have O4 := Lib.hid (show Below w.heap.size w (World.drew ((wr.setCell ⟨T, a, none⟩ (.int .u8 y)).setCell ⟨T, b, none⟩ (.int .u8 z))) from Below.drew (Below.setCells (Below.setCells HB.out Tw [.int .u8 y] a) Tw [.int .u8 z] b))
      have s1 : 2 * (k : Int) = (a : Int) := by omega
      have s2 : (a : Int) + 1 = (b : Int) := by omega
      have wa : IntKind.i64.wrap (a : Int) = (a : Int) := IntWalk.i64_in _ (by omega)
      have wb : IntKind.i64.wrap (b : Int) = (b : Int) := IntWalk.i64_in _ (by omega)
      have a0 : (0 : Int) ≤ (a : Int) := by omega
      have b0 : (0 : Int) ≤ (b : Int) := by omega
      have a1 : (a : Int) < 64 := by omega
      have b1 : (b : Int) < 64 := by omega
      have nab : a ≠ b := by omega
      have nba : b ≠ a := by omega
      have hki : (k : Int) < 32 := by omega
      have k0 : (0 : Int) ≤ (k : Int) := by omega
      have wk : IntKind.i64.wrap ((k : Int) + 1) = (k : Int) + 1 := IntWalk.i64_in _ (by omega)
      have HLT := Lib.hid hlt
      clear hlt hk ea eb XS1 XS2 O1 O2 E1 E2 HT HB ex IX ey ez hh hl
      go_wp2_with (fail)
      go_region_held3 (fun w' => True) (exact trivial) (fail)
      all_goals (
        clear d1 d2 F1 F2 C1 C2 hx
        generalize (World.drew ((wr.setCell ⟨T, a, none⟩ (.int .u8 y)).setCell ⟨T, b, none⟩ (.int .u8 z))) = w9 at *
        go_wp2_with (fail)
        go_roundw
        case rel => (first | exact ⟨k + 1, HLT.out, by go_num, O4, O3⟩ | ((repeat apply Exists.intro); exact ⟨⟨k + 1, HLT.out, by go_num, O4, O3⟩, rfl⟩))
        case measure => (have := HLT.out; simp [intOf]; omega))
    · obtain rfl : k = 32 := by omega
      clear hlt hk
      have hcv := conv_any (some ⟨T, 0, none⟩) 64 64 (hexF f) wr (.inr ⟨T, 0, rfl, by have := HT.out.has; rwa [upto_all] at this⟩)
      rw [show strOfNums ((List.range 64).map (hexF f)) = hexS f 64 from rfl] at hcv
      obtain ⟨S_, eS⟩ : ∃ S_, hexS f 64 = S_ := ⟨_, rfl⟩
      rw [eS] at hcv
      replace eS := Lib.hid eS
      have Tl := HT.out.lt
      go_wp2_with (fail)
      go_ret
      rw [eS.out]
      exact ⟨rfl, HB.out⟩
end Go.Proofs.YtajejlaoompieaaDoor
