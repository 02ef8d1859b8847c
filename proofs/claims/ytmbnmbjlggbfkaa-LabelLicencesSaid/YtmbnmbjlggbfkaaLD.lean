/- label: masks; LabelMasks' walk. -/
import Derived.Test.YtmbnmbjlggbfkaaLB
import Derived.Test.YtmbnmbjlggbfkaaCD
namespace Go.Proofs.Ytmbnmbjlggbfkaa
set_option linter.unusedVariables false
set_option maxRecDepth 2000
set_option linter.unusedSimpArgs false
open Go.RowKit
/-- one new block: the world and the block by letters -/
theorem lal1 (w : World) (a : Nat) (cs : Array Value) (T : TypeId) (l : List Value) (ha : w.heap.size = a) (h : cs.toList = l) : ∃ W X, w.alloc (.cells cs T) = W ∧ a = X ∧ Hid (Own X l W) ∧ Hid (Below w.heap.size w W) ∧ Hid (w.heap.size ≤ X) ∧ W.heap.size = X + 1 :=
  ⟨_, _, rfl, rfl, Lib.hid (by subst h; exact Own.newAt ha.symm), Lib.hid (Below.al (Below.refl _ _)), Lib.hid (Nat.le_of_eq ha), by rw [World.size_alloc, ha]⟩
def bitsF (g : Nat → Int) (z : Int) : Int := if 0 ≤ z ∧ z < 8 then g z.toNat else 0
theorem Bits_any (mg : Nat → Int) (z : Int) (hz : -9223372036854775808 ≤ z ∧ z ≤ 9223372036854775807) (w : World) : Calls Try.prog 12 #[.agg #[.int .u8 (mg 0), .int .u8 (mg 1), .int .u8 (mg 2), .int .u8 (mg 3), .int .u8 (mg 4), .int .u8 (mg 5), .int .u8 (mg 6), .int .u8 (mg 7)], .int .i64 z] w fun e w' => e = .returned (.int .u8 (bitsF mg z)) ∧ Below w.heap.size w w' := by
  by_cases h0 : z < 0
  · have e0 : decide (z < 0) = true := decide_eq_true h0
    have e : bitsF mg z = 0 := by unfold bitsF; rw [if_neg (by omega)]
    rw [e]
    clear hz
    go_enter Try.func12, Try.ntmps12
    go_wp2_with (fail)
    go_ret
    exact ⟨rfl, (by repeat (first | exact Below.refl _ _ | assumption | refine below_drewN ?_ _ | refine Below.drew ?_ | refine Below.alloc ?_ (by first | omega | (simp; done) | (simp; omega)) _ | refine Below.setCell ?_ (by first | (simp; done) | (simp; omega)) _))⟩
  · by_cases h1 : 8 ≤ z
    · have e0 : decide (z < 0) = false := decide_eq_false h0
      have e1 : decide (8 ≤ z) = true := decide_eq_true h1
      have e : bitsF mg z = 0 := by unfold bitsF; rw [if_neg (by omega)]
      rw [e]
      clear hz h0
      go_enter Try.func12, Try.ntmps12
      go_wp2_with (fail)
      go_ret
      exact ⟨rfl, (by repeat (first | exact Below.refl _ _ | assumption | refine below_drewN ?_ _ | refine Below.drew ?_ | refine Below.alloc ?_ (by first | omega | (simp; done) | (simp; omega)) _ | refine Below.setCell ?_ (by first | (simp; done) | (simp; omega)) _))⟩
    · obtain ⟨k, rfl⟩ : ∃ k : Nat, z = k := ⟨z.toNat, by omega⟩
      have hk : k < 8 := by omega
      have e : bitsF mg k = mg k := by unfold bitsF; rw [if_pos (by omega)]; rfl
      rw [e]
      have e0 : decide ((k : Int) < 0) = false := decide_eq_false h0
      have e1 : decide (8 ≤ (k : Int)) = false := decide_eq_false h1
      have e2 : decide (8 ≤ k) = false := decide_eq_false (by omega)
      clear hz h0 h1 e
      go_enter Try.func12, Try.ntmps12
      go_upto_region 1 with fail
      obtain ⟨W, X, eW, eX, HX, B, XW, S⟩ := lal1 w _ #[.int .u8 (mg 0), .int .u8 (mg 1), .int .u8 (mg 2), .int .u8 (mg 3), .int .u8 (mg 4), .int .u8 (mg 5), .int .u8 (mg 6), .int .u8 (mg 7)] 29 (nums .u8 mg 8) rfl rfl
      rw [eW, eX]
      have c0 := HX.out.at k _ (nums_at .u8 mg hk)
      clear eW eX S
      go_wp2_with (fail)
      go_ret
      exact ⟨rfl, B.out⟩
theorem Sees_any (mg : Nat → Int) (z : Int) (hz : -9223372036854775808 ≤ z ∧ z ≤ 9223372036854775807) (w : World) : Calls Try.prog 13 #[.agg #[.int .u8 (mg 0), .int .u8 (mg 1), .int .u8 (mg 2), .int .u8 (mg 3), .int .u8 (mg 4), .int .u8 (mg 5), .int .u8 (mg 6), .int .u8 (mg 7)], .int .i64 z] w fun e w' => e = .returned (.bool (!(bitsF mg z == 0))) ∧ Below w.heap.size w w' := by
  have HB := Lib.hid (Bits_any mg z hz)
  clear hz
  generalize bitsF mg z = r at *
  go_enter Try.func13, Try.ntmps13
  go_wp2_with (fail)
  go_at_call 12
  refine (HB.out _).mono ?_
  rintro e w1 ⟨rfl, hb⟩
  have HB1 := Lib.hid (Below.go (Below.al (Below.refl _ _)) hb)
  clear hb
  go_wp2_with (fail)
  go_ret
  exact ⟨rfl, HB1.out⟩
set_option maxHeartbeats 4000000 in
theorem Masks_law (mg : Nat → Int) (z : Int) (hz : -9223372036854775808 ≤ z ∧ z ≤ 9223372036854775807) (hg : ∀ j, j < 8 → 0 ≤ mg j) (w : World) : Calls Try.prog 4 #[.agg #[.int .u8 (mg 0), .int .u8 (mg 1), .int .u8 (mg 2), .int .u8 (mg 3), .int .u8 (mg 4), .int .u8 (mg 5), .int .u8 (mg 6), .int .u8 (mg 7)], .int .i64 z] w fun e w' => e = .returned (.bool true) ∧ Below w.heap.size w w' := by
  have HBi := Lib.hid (Bits_any mg z hz)
  have HSe := Lib.hid (Sees_any mg z hz)
  by_cases h : 0 ≤ z ∧ z < 8
  · obtain ⟨k, rfl⟩ : ∃ k : Nat, z = k := ⟨z.toNat, by omega⟩
    have hk : k < 8 := by omega
    have e : bitsF mg k = mg k := by unfold bitsF; rw [if_pos (by omega)]; rfl
    rw [e] at HBi HSe
    have e0 : decide ((k : Int) < 0) = false := decide_eq_false (by omega)
    have e1 : decide (7 < (k : Int)) = false := decide_eq_false (by omega)
    have e2 : decide (7 < k) = false := decide_eq_false (by omega)
    have HK := Lib.hid hk
    have HE : Hid ((!(mg k == 0)) = decide (0 < mg k)) := Lib.hid (by
      have := hg k hk
      by_cases h1 : mg k = 0
      · simp [h1]
      · rw [decide_eq_true (by omega : 0 < mg k)]; simp [h1])
    clear hz h e hg
    go_enter Try.func4, Try.ntmps4
    go_upto_region 1 with fail
    obtain ⟨W, X, eW, eX, HX0, HB0, XW, S⟩ := lal1 w _ #[.int .u8 (mg 0), .int .u8 (mg 1), .int .u8 (mg 2), .int .u8 (mg 3), .int .u8 (mg 4), .int .u8 (mg 5), .int .u8 (mg 6), .int .u8 (mg 7)] 29 (nums .u8 mg 8) rfl rfl
    rw [eW, eX]
    clear eW eX S
    have c0 := HX0.out.at 0 _ (nums_at .u8 mg (show 0 < 8 by decide))
    have c1 := HX0.out.at 1 _ (nums_at .u8 mg (show 1 < 8 by decide))
    have c2 := HX0.out.at 2 _ (nums_at .u8 mg (show 2 < 8 by decide))
    have c3 := HX0.out.at 3 _ (nums_at .u8 mg (show 3 < 8 by decide))
    have c4 := HX0.out.at 4 _ (nums_at .u8 mg (show 4 < 8 by decide))
    have c5 := HX0.out.at 5 _ (nums_at .u8 mg (show 5 < 8 by decide))
    have c6 := HX0.out.at 6 _ (nums_at .u8 mg (show 6 < 8 by decide))
    have c7 := HX0.out.at 7 _ (nums_at .u8 mg (show 7 < 8 by decide))
    go_wp2_with (fail)
    go_at_call 12
    refine (HBi.out _).mono ?_
    rintro e w1 ⟨rfl, hb⟩
    clear c0 c1 c2 c3 c4 c5 c6 c7
    have HX1 := Lib.hid (HX0.out.later hb)
    have HB1 := Lib.hid (Below.go HB0.out hb)
    clear hb HX0 HB0
    have d0 := HX1.out.at 0 _ (nums_at .u8 mg (show 0 < 8 by decide))
    have d1 := HX1.out.at 1 _ (nums_at .u8 mg (show 1 < 8 by decide))
    have d2 := HX1.out.at 2 _ (nums_at .u8 mg (show 2 < 8 by decide))
    have d3 := HX1.out.at 3 _ (nums_at .u8 mg (show 3 < 8 by decide))
    have d4 := HX1.out.at 4 _ (nums_at .u8 mg (show 4 < 8 by decide))
    have d5 := HX1.out.at 5 _ (nums_at .u8 mg (show 5 < 8 by decide))
    have d6 := HX1.out.at 6 _ (nums_at .u8 mg (show 6 < 8 by decide))
    have d7 := HX1.out.at 7 _ (nums_at .u8 mg (show 7 < 8 by decide))
    have dk := HX1.out.at k _ (nums_at .u8 mg HK.out)
    go_wp2_with (fail)
    go_at_call 13
    refine (HSe.out _).mono ?_
    rintro e w2 ⟨rfl, hb⟩
    have HX2 := Lib.hid (HX1.out.later hb)
    have HB2 := Lib.hid (Below.go HB1.out hb)
    clear hb HX1 HB1
    rw [HE.out]
    go_wp2_with (fail)
    go_at_call 11
    refine (works_any _).mono ?_
    rintro e w3 ⟨rfl, hb⟩
    have HB3 := Lib.hid (Below.go HB2.out hb)
    clear hb
    go_wp2_with (fail)
    go_ret
    exact ⟨rfl, HB3.out⟩
  · have e : bitsF mg z = 0 := by unfold bitsF; rw [if_neg h]
    rw [e] at HBi HSe
    by_cases h0 : z < 0
    · have e0 : decide (z < 0) = true := decide_eq_true h0
      clear hz h e hg h0
      go_enter Try.func4, Try.ntmps4
      go_upto_region 1 with fail
      obtain ⟨W, X, eW, eX, HX0, HB0, XW, S⟩ := lal1 w _ #[.int .u8 (mg 0), .int .u8 (mg 1), .int .u8 (mg 2), .int .u8 (mg 3), .int .u8 (mg 4), .int .u8 (mg 5), .int .u8 (mg 6), .int .u8 (mg 7)] 29 (nums .u8 mg 8) rfl rfl
      rw [eW, eX]
      clear eW eX S
      have c0 := HX0.out.at 0 _ (nums_at .u8 mg (show 0 < 8 by decide))
      have c1 := HX0.out.at 1 _ (nums_at .u8 mg (show 1 < 8 by decide))
      have c2 := HX0.out.at 2 _ (nums_at .u8 mg (show 2 < 8 by decide))
      have c3 := HX0.out.at 3 _ (nums_at .u8 mg (show 3 < 8 by decide))
      have c4 := HX0.out.at 4 _ (nums_at .u8 mg (show 4 < 8 by decide))
      have c5 := HX0.out.at 5 _ (nums_at .u8 mg (show 5 < 8 by decide))
      have c6 := HX0.out.at 6 _ (nums_at .u8 mg (show 6 < 8 by decide))
      have c7 := HX0.out.at 7 _ (nums_at .u8 mg (show 7 < 8 by decide))
      go_wp2_with (fail)
      go_at_call 12
      refine (HBi.out _).mono ?_
      rintro e w1 ⟨rfl, hb⟩
      clear c0 c1 c2 c3 c4 c5 c6 c7
      have HX1 := Lib.hid (HX0.out.later hb)
      have HB1 := Lib.hid (Below.go HB0.out hb)
      clear hb HX0 HB0
      have d0 := HX1.out.at 0 _ (nums_at .u8 mg (show 0 < 8 by decide))
      have d1 := HX1.out.at 1 _ (nums_at .u8 mg (show 1 < 8 by decide))
      have d2 := HX1.out.at 2 _ (nums_at .u8 mg (show 2 < 8 by decide))
      have d3 := HX1.out.at 3 _ (nums_at .u8 mg (show 3 < 8 by decide))
      have d4 := HX1.out.at 4 _ (nums_at .u8 mg (show 4 < 8 by decide))
      have d5 := HX1.out.at 5 _ (nums_at .u8 mg (show 5 < 8 by decide))
      have d6 := HX1.out.at 6 _ (nums_at .u8 mg (show 6 < 8 by decide))
      have d7 := HX1.out.at 7 _ (nums_at .u8 mg (show 7 < 8 by decide))
      go_wp2_with (fail)
      go_at_call 13
      refine (HSe.out _).mono ?_
      rintro e w2 ⟨rfl, hb⟩
      have HX2 := Lib.hid (HX1.out.later hb)
      have HB2 := Lib.hid (Below.go HB1.out hb)
      clear hb HX1 HB1
      go_wp2_with (fail)
      go_at_call 11
      refine (works_any _).mono ?_
      rintro e w3 ⟨rfl, hb⟩
      have HB3 := Lib.hid (Below.go HB2.out hb)
      clear hb
      go_wp2_with (fail)
      go_ret
      exact ⟨rfl, HB3.out⟩
    · have e0 : decide (z < 0) = false := decide_eq_false h0
      have e1 : decide (7 < z) = true := decide_eq_true (by omega)
      clear hz h e hg h0
      go_enter Try.func4, Try.ntmps4
      go_upto_region 1 with fail
      obtain ⟨W, X, eW, eX, HX0, HB0, XW, S⟩ := lal1 w _ #[.int .u8 (mg 0), .int .u8 (mg 1), .int .u8 (mg 2), .int .u8 (mg 3), .int .u8 (mg 4), .int .u8 (mg 5), .int .u8 (mg 6), .int .u8 (mg 7)] 29 (nums .u8 mg 8) rfl rfl
      rw [eW, eX]
      clear eW eX S
      have c0 := HX0.out.at 0 _ (nums_at .u8 mg (show 0 < 8 by decide))
      have c1 := HX0.out.at 1 _ (nums_at .u8 mg (show 1 < 8 by decide))
      have c2 := HX0.out.at 2 _ (nums_at .u8 mg (show 2 < 8 by decide))
      have c3 := HX0.out.at 3 _ (nums_at .u8 mg (show 3 < 8 by decide))
      have c4 := HX0.out.at 4 _ (nums_at .u8 mg (show 4 < 8 by decide))
      have c5 := HX0.out.at 5 _ (nums_at .u8 mg (show 5 < 8 by decide))
      have c6 := HX0.out.at 6 _ (nums_at .u8 mg (show 6 < 8 by decide))
      have c7 := HX0.out.at 7 _ (nums_at .u8 mg (show 7 < 8 by decide))
      go_wp2_with (fail)
      go_at_call 12
      refine (HBi.out _).mono ?_
      rintro e w1 ⟨rfl, hb⟩
      clear c0 c1 c2 c3 c4 c5 c6 c7
      have HX1 := Lib.hid (HX0.out.later hb)
      have HB1 := Lib.hid (Below.go HB0.out hb)
      clear hb HX0 HB0
      have d0 := HX1.out.at 0 _ (nums_at .u8 mg (show 0 < 8 by decide))
      have d1 := HX1.out.at 1 _ (nums_at .u8 mg (show 1 < 8 by decide))
      have d2 := HX1.out.at 2 _ (nums_at .u8 mg (show 2 < 8 by decide))
      have d3 := HX1.out.at 3 _ (nums_at .u8 mg (show 3 < 8 by decide))
      have d4 := HX1.out.at 4 _ (nums_at .u8 mg (show 4 < 8 by decide))
      have d5 := HX1.out.at 5 _ (nums_at .u8 mg (show 5 < 8 by decide))
      have d6 := HX1.out.at 6 _ (nums_at .u8 mg (show 6 < 8 by decide))
      have d7 := HX1.out.at 7 _ (nums_at .u8 mg (show 7 < 8 by decide))
      go_wp2_with (fail)
      go_at_call 13
      refine (HSe.out _).mono ?_
      rintro e w2 ⟨rfl, hb⟩
      have HX2 := Lib.hid (HX1.out.later hb)
      have HB2 := Lib.hid (Below.go HB1.out hb)
      clear hb HX1 HB1
      go_wp2_with (fail)
      go_at_call 11
      refine (works_any _).mono ?_
      rintro e w3 ⟨rfl, hb⟩
      have HB3 := Lib.hid (Below.go HB2.out hb)
      clear hb
      go_wp2_with (fail)
      go_ret
      exact ⟨rfl, HB3.out⟩
end Go.Proofs.Ytmbnmbjlggbfkaa
