/- codec: the chapter's example. -/
import Derived.Test.YtbgkdghimnmmaaaDD
import Derived.Test.YtbgkdghimnmmaaaCT
import Derived.Lib.Hide
import Derived.Deep.Onto
namespace Go.Proofs.Ytbgkdghimnmmaaa
set_option linter.unusedVariables false
set_option maxRecDepth 2000
set_option linter.unusedSimpArgs false
open Go.RowKit
theorem byt_eq {w : World} {q : Option Addr} {n : Nat} {f g : Nat → Int} (h : Byt w q n f) (e : ∀ j, j < n → f j = g j) : Byt w q n g := by
  rcases h with h | ⟨b, off, h1, h2⟩
  · exact .inl h
  · exact .inr ⟨b, off, h1, by rw [← nums_congr .u8 e]; exact h2⟩
theorem nm_new {w : World} {k : IntKind} {n : Nat} {f : Nat → Int} {T : TypeId} {cs : Array Value} (h : cs.toList = nums k f n) : Nm (w.alloc (.cells cs T)) k (some ⟨w.heap.size, 0, none⟩) n f :=
  .inr ⟨w.heap.size, 0, rfl, by rw [← h]; exact (Own.newAt rfl).has⟩
theorem byt_new {w : World} {n : Nat} {f : Nat → Int} {T : TypeId} {cs : Array Value} (h : cs.toList = nums .u8 f n) : Byt (w.alloc (.cells cs T)) (some ⟨w.heap.size, 0, none⟩) n f :=
  .inr ⟨w.heap.size, 0, rfl, by rw [← h]; exact (Own.newAt rfl).has⟩
def exA (j : Nat) : Int := [(2 : Int), 1, 1, 0].getD j 0
def exN (j : Nat) : Int := [(258 : Int), 1].getD j 0

set_option maxHeartbeats 4000000 in
theorem works11_any (w : World) : Calls Try.prog 12 #[] w fun e w' => e = .returned (.bool true) ∧ Below w.heap.size w w' := by
  have E1 : putE fitU 2 2 exN = 0 := by decide +kernel
  have E2 : putE fitS 2 1 (fun _ => -1) = 0 := by decide +kernel
  have P1 := Lib.hid (fun p w hp => Put_any none p 0 0 2 2 2 (fun _ => 0) exN (fun k hk => by rcases (show k = 0 ∨ k = 1 by omega) with rfl | rfl <;> decide) (Nat.le_refl _) (by decide) (Nat.le_refl _) (by decide) (by decide) w (.inl rfl) hp)
  have P2 := Lib.hid (fun p w hp => Signed_any none p 0 0 1 1 2 (fun _ => 0) (fun _ => -1) (fun k hk => by decide) (Nat.le_refl _) (by decide) (Nat.le_refl _) (by decide) (by decide) w (.inl rfl) hp)
  rw [E1, show putL 0 2 2 0 = 4 by rfl] at P1
  rw [E2, show putL 0 1 2 0 = 2 by rfl] at P2
  have F1 : ∀ j, j < 4 → outF (fun _ => 0) 0 (2 : Int).toNat exN j = exA j := fun j hj => by
    rcases (show j = 0 ∨ j = 1 ∨ j = 2 ∨ j = 3 by omega) with rfl | rfl | rfl | rfl <;> decide +kernel
  have F2 : ∀ j, j < 2 → outF (fun _ => 0) 0 (2 : Int).toNat (fun _ => -1) j = 255 := fun j hj => by
    rcases (show j = 0 ∨ j = 1 by omega) with rfl | rfl <;> decide +kernel
  clear E1 E2
  go_enter Try.func12, Try.ntmps12
  go_wp2_with (fail)
  go_at_call 7
  refine (P1.out _ _ (nm_new rfl)).mono ?_
  rintro e w1 ⟨v1, rfl, hrow, hb⟩
  obtain ⟨p1, c1, rfl, _⟩ := row_form hrow
  have BY1 := Lib.hid (byt_eq (byt_row hrow).2 F1)
  have hB1 := Below.go (Below.al (Below.refl _ _)) hb
  clear hrow hb F1 P1
  go_wp2_with (fail)
  go_at_call 9
  refine (P2.out _ _ (nm_new rfl)).mono ?_
  rintro e w2 ⟨v2, rfl, hrow, hb⟩
  obtain ⟨p2, c2, rfl, _⟩ := row_form hrow
  have BY2 := Lib.hid (byt_eq (byt_row hrow).2 F2)
  have hb2 := Below.go (Below.al (Below.refl _ _)) hb
  have hB2 := Below.go hB1 hb2
  replace BY1 := Lib.hid (BY1.out.later hb2)
  clear hrow hb hb2 hB1 F2 P2
  go_wp2_with (fail)
  go_at_call 11
  refine (Equal_any p1 _ 4 c1 4 exA _ (BY1.out.later (Below.al (Below.refl _ _))) (byt_new rfl)).mono ?_
  rintro e w3 ⟨rfl, hb⟩
  have hb2 := Below.go (Below.al (Below.refl _ _)) hb
  have hB3 := Below.go hB2 hb2
  replace BY2 := Lib.hid (BY2.out.later hb2)
  clear hb hb2 hB2 BY1
  go_wp2_with (fail)
  go_at_call 11
  refine (Equal_any p2 _ 2 c2 2 (fun _ => 255) _ (BY2.out.later (Below.al (Below.refl _ _))) (byt_new rfl)).mono ?_
  rintro e w4 ⟨rfl, hb⟩
  have hb2 := Below.go (Below.al (Below.refl _ _)) hb
  have hB4 := Below.go hB3 hb2
  clear hb hb2 hB3 BY2
  go_wp2_with (fail)
  go_ret
  exact ⟨rfl, hB4⟩
end Go.Proofs.Ytbgkdghimnmmaaa
