/- umbraref08.filled. -/
import Derived.Test.YtjkeaiihjbcfgaaDoorYEC
import Derived.Lib.Hide
import Derived.Deep.Onto
import Derived.LoopN
import Derived.LoopTactic
import Derived.Laws.OwnMore
namespace Go.Proofs.YtjkeaiihjbcfgaaDoor
set_option linter.unusedVariables false
set_option maxRecDepth 2000
set_option linter.unusedSimpArgs false
open Go.RowKit
/-- n bytes of f, then bytes 0 -/
def fillF (f : Nat → Int) (n : Nat) (j : Nat) : Int := if j < n then f j else 0
attribute [local go_sem] nums_length

set_option maxHeartbeats 4000000 in
theorem filled_any (p : Option Addr) (n c : Nat) (f : Nat → Int) (hn : n ≤ 65000) (w : World) (hp : Byt w p n f) :
    Calls Tryd.prog 26 #[.slice p n c] w fun e w' => ∃ v, e = .returned v ∧ w'.ownsRow w.heap.size 5 1 v (n + padN n) (nums .u8 (fillF f n) (n + padN n)) ∧ Below w.heap.size w w' := by
  obtain ⟨i0, hi, hz0, hz1, hz2⟩ := infoB_parts
  have HN := Lib.hid hn; have HP := Lib.hid hp
  clear hn hp
  go_enter Tryd.func26, Tryd.ntmps26
  go_wp2_with (at_builtin; refine wpList_append_b rfl _ _ rfl w.heap.size _ 0 [] rfl (World.ownsRow_lit w #[] 0 (Nat.le_refl _) (by decide) rfl) p n c f rfl (HP.out.later (Below.al (Below.refl _ _))) (by have := HN.out; omega) (by simp) ?_; intro v' w6 hrow hgr; obtain ⟨p', c', rfl, _⟩ := row_form hrow; rw [Nat.zero_add, List.nil_append] at hrow; have hB0 := (Below.al (o := (.cells #[] 5)) (Below.refl w.heap.size w)).grown hgr (by simp) (fun q hq => by cases hq; exact Nat.le_refl _))
  have ROW0 := Lib.hid hrow
  have HB0 := Lib.hid hB0
  clear hrow hgr hB0
  go_loopw [3] (fun v wr => ∃ (k : Nat) (p3 : Option Addr) (c3 : Nat), k ≤ padN n ∧ v = .slice p3 (n + k) c3 ∧ Hid (wr.ownsRow w.heap.size 5 1 (.slice p3 (n + k) c3) (n + k) (nums .u8 (fillF f n) (n + k))) ∧ Hid (Below w.heap.size w wr)) (fun v _ => (n + 16 - slLen v))
  case atStart => exact ⟨0, p', c', Nat.zero_le _, rfl, Lib.hid (by rw [Nat.add_zero, nums_congr (g := f) .u8 (fun i hi => by unfold fillF; rw [if_pos hi])]; exact ROW0.out), HB0⟩
  case round =>
    clear ROW0 HB0
    obtain ⟨k, p3, c3, hk, rfl, ROW, HB⟩ := hrel
    have hN := HN.out
    have PK := Lib.hid hk
    obtain ⟨t, et⟩ : ∃ t, n + k = t := ⟨_, rfl⟩
    have ET := Lib.hid et
    have hp15 : padN n < 16 := by unfold padN; omega
    have t5 : t ≤ 65100 := by omega
    have tm : (t : Int).tmod 16 = ((t % 16 : Nat) : Int) := by rw [Int.tmod_eq_emod_of_nonneg (by omega)]; omega
    have hst : t % 16 = 0 ↔ k = padN n := by unfold padN at hk ⊢; omega
    rw [et] at ROW ⊢
    obtain ⟨r, er⟩ : ∃ r : Nat, t % 16 = r := ⟨_, rfl⟩
    rw [er] at tm hst
    have wr_ : IntKind.i64.wrap (r : Int) = (r : Int) := IntWalk.i64_in _ (by omega)
    by_cases hr : r = 0
    · subst hr
      have ek := hst.1 rfl
      subst ek
      have g1 : decide ((0 : Int) < ((0 : Nat) : Int)) = false := rfl
      clear hst er et hk t5 hN
      go_wp2_with (fail)
      go_ret
      exact ⟨_, rfl, by rw [ET.out]; exact ROW.out, HB.out⟩
    · have g1 : decide ((0 : Int) < (r : Int)) = true := by simp; omega
      have g2 : decide (0 < r) = true := by simp; omega
      have K1 := Lib.hid (show k + 1 ≤ padN n by have : ¬ k = padN n := fun h => hr (hst.2 h); omega)
      have XS : Hid (nums .u8 (fillF f n) t ++ [.int .u8 0] = nums .u8 (fillF f n) (t + 1)) := Lib.hid (nums_append .u8 (fillF f n) (fun _ => 0) t 1 (fun i hi => by
        obtain rfl : i = 0 := by omega
        rw [Nat.add_zero, ← et]
        unfold fillF
        rw [if_neg (by omega)]))
      have N63 := Lib.hid (show t + 1 ≤ maxLen by unfold maxLen; omega)
      have NBY := Lib.hid (show (t + 1) * 1 ≤ 140737488355328 by omega)
      have HS2 : Hid (w.heap.size ≤ (wr.alloc (.cells #[.int .u8 0] 5)).heap.size) := Lib.hid (Below.al HB.out).size
      have TN := Lib.hid (show t < n + 16 by omega)
      clear hst er et hk t5 hN hr
      go_wp2_with (at_builtin; refine wpList_append_own _ rfl _ _ 26 rfl w.heap.size 5 i0 (.int .u8 0) 1 1 Tryd.underlying26 hi hz0 hz1 hz2 rfl (by decide) _ (t) _ rfl (row_later ROW.out (Below.al (Below.refl _ _))) ⟨wr.heap.size, 0, none⟩ 1 1 [.int .u8 0] rfl rfl (Own.newAt (by rfl)).news (by intro v hv; cases hv with | head => rfl | tail _ h => nomatch h) N63.out NBY.out HS2.out ?_; intro v' w6 hrow hgr _; obtain ⟨p', c', rfl, _⟩ := row_form hrow; rw [XS.out] at hrow; have o4 := Lib.hid ((Below.al HB.out).grown hgr (Below.al HB.out).size fun q hq => row_ge ROW.out q hq); have o6 := Lib.hid hrow; clear hrow hgr)
      go_roundw
      case rel => (first | exact ⟨k + 1, _, _, K1.out, by rw [← Nat.add_assoc, ET.out], Lib.hid (by rw [← Nat.add_assoc, ET.out]; exact o6.out), o4⟩ | ((repeat apply Exists.intro); exact ⟨⟨k + 1, _, _, K1.out, by rw [← Nat.add_assoc, ET.out], Lib.hid (by rw [← Nat.add_assoc, ET.out]; exact o6.out), o4⟩, rfl⟩))
      case measure => have := TN.out; simp [slLen]; omega
end Go.Proofs.YtjkeaiihjbcfgaaDoor
