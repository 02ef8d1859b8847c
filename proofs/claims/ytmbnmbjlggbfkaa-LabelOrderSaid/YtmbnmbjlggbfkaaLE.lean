/- label: LabelOrder's walk. -/
import Derived.Test.YtmbnmbjlggbfkaaLB
namespace Go.Proofs.Ytmbnmbjlggbfkaa
set_option linter.unusedVariables false
set_option maxRecDepth 2000
set_option linter.unusedSimpArgs false
open Go.RowKit
theorem or_comm3 (a b c : Int) : orU (orU a b) c = orU (orU c a) b := by
  unfold orU
  simp only [Int.toNat_natCast]
  congr 1
  rw [Nat.or_comm, Nat.or_assoc c.toNat]
theorem or_assoc3 (a b c : Int) : orU a (orU b c) = orU (orU a b) c := by
  unfold orU
  simp only [Int.toNat_natCast]
  rw [Nat.or_assoc]
theorem or_self1 {a : Int} (h : inU a) : orU a a = a := by
  have := h.1
  unfold orU
  rw [Nat.or_self]
  omega
set_option maxHeartbeats 4000000 in
theorem Order_law (a b c : Int) (ha : inU a) (hb : inU b) (hc : inU c) (w : World) : Calls Try.prog 7 #[.int .u32 a, .int .u32 b, .int .u32 c] w fun e w' => e = .returned (.bool true) ∧ Below w.heap.size w w' := by
  have IA := Lib.hid ha; have IB := Lib.hid hb; have IC := Lib.hid hc
  have I1 := Lib.hid (in_orU hb hc); have I2 := Lib.hid (in_orU ha hb)
  have E1 := Lib.hid (or_comm3 a b c)
  have E2 := Lib.hid (or_assoc3 a b c)
  have E3 := Lib.hid (or_self1 ha)
  clear ha hb hc
  go_enter Try.func7, Try.ntmps7
  go_wp2_with (fail)
  go_at_call 8
  refine (Join_three w.heap.size a b c IA.out IB.out IC.out _ (by simp [go_sem]) (by simp [go_sem]) (by simp [go_sem]) (by simp [go_sem])).mono ?_
  rintro e w1 ⟨rfl, hw⟩
  have HB1 : Hid (Below w.heap.size w w1) := Lib.hid (by rw [hw]; exact Below.al (Below.refl _ _))
  clear hw
  go_wp2_with (fail)
  go_at_call 8
  refine (Join_three w1.heap.size c a b IC.out IA.out IB.out _ (by simp [go_sem]) (by simp [go_sem]) (by simp [go_sem]) (by simp [go_sem])).mono ?_
  rintro e w2 ⟨rfl, hw⟩
  have HB2 : Hid (Below w.heap.size w w2) := Lib.hid (by rw [hw]; exact Below.al (HB1.out))
  clear hw HB1
  rw [← E1.out]
  go_wp2_with (fail)
  go_at_call 8
  refine (Join_two w2.heap.size b c IB.out IC.out _ (by simp [go_sem]) (by simp [go_sem]) (by simp [go_sem])).mono ?_
  rintro e w3 ⟨rfl, hw⟩
  have HB3 : Hid (Below w.heap.size w w3) := Lib.hid (by rw [hw]; exact Below.al HB2.out)
  clear hw HB2
  go_wp2_with (fail)
  go_at_call 8
  refine (Join_two w3.heap.size a (orU b c) IA.out I1.out _ (by simp [go_sem]) (by simp [go_sem]) (by simp [go_sem])).mono ?_
  rintro e w4 ⟨rfl, hw⟩
  have HB4 : Hid (Below w.heap.size w w4) := Lib.hid (by rw [hw]; exact Below.al HB3.out)
  clear hw HB3
  rw [E2.out]
  go_wp2_with (fail)
  go_at_call 8
  refine (Join_two w4.heap.size a b IA.out IB.out _ (by simp [go_sem]) (by simp [go_sem]) (by simp [go_sem])).mono ?_
  rintro e w5 ⟨rfl, hw⟩
  have HB5 : Hid (Below w.heap.size w w5) := Lib.hid (by rw [hw]; exact Below.al HB4.out)
  clear hw HB4
  go_wp2_with (fail)
  go_at_call 8
  refine (Join_two w5.heap.size (orU a b) c I2.out IC.out _ (by simp [go_sem]) (by simp [go_sem]) (by simp [go_sem])).mono ?_
  rintro e w6 ⟨rfl, hw⟩
  have HB6 : Hid (Below w.heap.size w w6) := Lib.hid (by rw [hw]; exact Below.al HB5.out)
  clear hw HB5
  go_wp2_with (fail)
  go_at_call 8
  refine (Join_two w6.heap.size a a IA.out IA.out _ (by simp [go_sem]) (by simp [go_sem]) (by simp [go_sem])).mono ?_
  rintro e w7 ⟨rfl, hw⟩
  have HB7 : Hid (Below w.heap.size w w7) := Lib.hid (by rw [hw]; exact Below.al HB6.out)
  clear hw HB6
  rw [E3.out]
  go_wp2_with (fail)
  go_at_call 11
  refine (works_any _).mono ?_
  rintro e w8 ⟨rfl, hb⟩
  have HB8 := Lib.hid (Below.go HB7.out hb)
  clear hb
  go_wp2_with (fail)
  go_ret
  exact ⟨rfl, HB8.out⟩
end Go.Proofs.Ytmbnmbjlggbfkaa
