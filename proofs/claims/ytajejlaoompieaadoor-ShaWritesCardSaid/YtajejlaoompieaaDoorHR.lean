/- umbralaw09.works. -/
import Derived.Test.YtajejlaoompieaaDoorHQ
import Derived.Lib.Hide
import Derived.Great.BuildSlice
import Derived.Lib.SlBytesConst
namespace Go.Proofs.YtajejlaoompieaaDoor
set_option linter.unusedVariables false
set_option maxRecDepth 2000
set_option linter.unusedSimpArgs false
open Go.RowKit
def abcT (k : Nat) : Nat := [0, 1, 3].getD k 3
theorem abc_in (i : Nat) : inB (abcG i) := inB_list [97, 98, 99] (by decide) i
theorem Sum_of (np cp N : Nat) (P_ : Option Addr) (g sf : Nat → Int) (T : Nat → Nat) (hN : T np = N) (hsf : sumF g N = sf) (hT0 : T 0 = 0) (hT : ∀ k, k ≤ np → T k ≤ 100000) (hnp : np ≤ cp) (hcp : cp ≤ 9223372036854775807) (hg : ∀ k, k ≤ np → ∀ j, j < T k → inB (g j)) (w : World) (hG : Has 0 0 (nums .u32 kC 64) w) (hH : Has 1 0 (nums .u32 hC 8) w) (hP : Parts w P_ np g T) :
    Calls Tryd.prog 17 #[.slice P_ np cp] w fun e w' => e = .returned (.agg (nums .u8 sf 32).toArray) ∧ Below w.heap.size w w' := by
  subst hN hsf
  exact Sum_any np cp P_ g T hT0 hT hnp hcp hg w hG hH hP
theorem Hex_of (f : Nat → Int) (s : ByteArray) (hs : hexS f 64 = s) (hf : ∀ j, j < 32 → inB (f j)) (w : World) : Calls Tryd.prog 21 #[.agg (nums .u8 f 32).toArray] w fun e w' => e = .returned (.string s) ∧ Below w.heap.size w w' := by
  subst hs
  exact Hex_any f hf w

set_option maxHeartbeats 4000000 in
theorem works_any (w : World) (hG : Has 0 0 (nums .u32 kC 64) w) (hH : Has 1 0 (nums .u32 hC 8) w) : Calls Tryd.prog 13 #[] w fun e w' => e = .returned (.bool true) ∧ Below w.heap.size w w' := by
  have HG := Lib.hid hG; have HH := Lib.hid hH
  clear hG hH
  obtain ⟨sf, esf⟩ : ∃ sf, sumF abcG 3 = sf := ⟨_, rfl⟩
  have EX := abc_hex
  rw [esf] at EX
  have SC := Lib.hid (fun P_ w h1 h2 h3 => Sum_of 2 2 3 P_ abcG sf abcT rfl esf rfl (fun k hk => by have : k = 0 ∨ k = 1 ∨ k = 2 := (by omega); rcases this with rfl | rfl | rfl <;> decide) (Nat.le_refl _) (by decide) (fun _ _ j _ => abc_in j) w h1 h2 h3)
  have XC := Lib.hid (fun w => Hex_of sf _ EX (fun j _ => esf ▸ in_byteOf _ j) w)
  clear esf EX
  go_enter Tryd.func13, Tryd.ntmps13
  go_upto_region 1 with fail
  refine wp_region_lit ?_
  refine wpList_slN rfl 23 5 1 _ rfl .u8 [97] abcG Tryd.underlying23 (by kernel_rfl) (by kernel_rfl) rfl (by decide) (by decide) (by kernel_rfl) (by kernel_rfl) ?_
  refine wpList_conv rfl _ rfl rfl ?_
  obtain ⟨W1, hW⟩ : ∃ W, W = (w.alloc (.cells (nums .u8 abcG 1).toArray 5 ((nums .u8 abcG 1).toArray.size, (nums .u8 abcG 1).toArray.size + 1))) := ⟨_, rfl⟩
  have HA_ : Hid (Has w.heap.size 0 (nums .u8 abcG 1) W1) := Lib.hid (hW ▸ has_marked _ _ _ _)
  have hBx : Below w.heap.size w W1 := hW ▸ Below.al (Below.refl _ _)
  rw [← hW]
  clear hW
  obtain ⟨A_, eA_⟩ : ∃ X, X = w.heap.size := ⟨_, rfl⟩
  rw [← eA_] at HA_ ⊢
  clear eA_
  have hB1 := hBx
  clear hBx
  refine wpList_slN rfl 23 5 2 _ rfl .u8 [98, 99] (fun i => abcG (1 + i)) Tryd.underlying23 (by kernel_rfl) (by kernel_rfl) rfl (by decide) (by decide) (by kernel_rfl) (by kernel_rfl) ?_
  refine wpList_conv rfl _ rfl rfl ?_
  obtain ⟨W2, hW⟩ : ∃ W, W = (W1.alloc (.cells (nums .u8 (fun i => abcG (1 + i)) 2).toArray 5 ((nums .u8 (fun i => abcG (1 + i)) 2).toArray.size, (nums .u8 (fun i => abcG (1 + i)) 2).toArray.size + 1))) := ⟨_, rfl⟩
  have HB_ : Hid (Has W1.heap.size 0 (nums .u8 (fun i => abcG (1 + i)) 2) W2) := Lib.hid (hW ▸ has_marked _ _ _ _)
  have hBx : Below W1.heap.size W1 W2 := hW ▸ Below.al (Below.refl _ _)
  rw [← hW]
  clear hW
  obtain ⟨B_, eB_⟩ : ∃ X, X = W1.heap.size := ⟨_, rfl⟩
  rw [← eB_] at HB_ ⊢
  clear eB_
  have HA2 := Lib.hid (HA_.out.later hBx)
  have hB2 := Below.go hB1 hBx
  clear hBx hB1 HA_
  go_wp2_with (fail)
  obtain ⟨W3, hW⟩ : ∃ W, W = (W2.alloc (.cells #[.slice (some ⟨A_, 0, none⟩) 1 1, .slice (some ⟨B_, 0, none⟩) 2 2] 23)) := ⟨_, rfl⟩
  have HLs : Hid (Own W2.heap.size [.slice (some ⟨A_, 0, none⟩) 1 1, .slice (some ⟨B_, 0, none⟩) 2 2] W3) := Lib.hid (hW ▸ Own.newAt rfl)
  have hBx : Below W2.heap.size W2 W3 := hW ▸ Below.al (Below.refl _ _)
  rw [← hW]
  clear hW
  obtain ⟨L_, eL⟩ : ∃ X, X = W2.heap.size := ⟨_, rfl⟩
  rw [← eL] at HLs ⊢
  clear eL
  have hB3 := Below.go hB2 hBx
  have hP : Parts W3 (some ⟨L_, 0, none⟩) 2 abcG abcT := fun k hk => by
    have hk' : k = 0 ∨ k = 1 := by omega
    rcases hk' with rfl | rfl
    · refine ⟨L_, 0, some ⟨A_, 0, none⟩, 1, 1, rfl, HLs.out.lt, HLs.out.at 0 _ rfl, by decide, by decide, rfl, .inr ⟨A_, 0, rfl, ?_⟩⟩
      rw [nums_congr (g := abcG) .u8 (fun j _ => by show abcG (0 + j) = abcG j; rw [Nat.zero_add])]
      exact HA2.out.later hBx
    · exact ⟨L_, 0, some ⟨B_, 0, none⟩, 2, 2, rfl, HLs.out.lt, HLs.out.at 1 _ rfl, by decide, by decide, rfl, .inr ⟨B_, 0, rfl, HB_.out.later hBx⟩⟩
  have G3 := HG.out.later hB3
  have H3 := HH.out.later hB3
  go_at_call 17
  refine (SC.out _ _ G3 H3 hP).mono ?_
  rintro e w5 ⟨rfl, hb⟩
  have hB4 := Below.go hB3 hb
  clear hBx hB2 hB3 hb hP HA2 HB_ HLs G3 H3 SC
  go_wp2_with (fail)
  go_at_call 21
  refine (XC.out _).mono ?_
  rintro e w6 ⟨rfl, hb⟩
  have hB5 := Below.go hB4 hb
  clear XC hb hB4
  go_wp2_with (fail)
  go_ret
  exact ⟨rfl, hB5⟩
end Go.Proofs.YtajejlaoompieaaDoor
