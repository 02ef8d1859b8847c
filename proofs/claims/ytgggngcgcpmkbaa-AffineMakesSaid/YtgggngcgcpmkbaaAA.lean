/- affine.Snap, and the document's. -/
import Derived.Test.YtgggngcgcpmkbaaKA
import Derived.Test.YtgggngcgcpmkbaaVN
namespace Go.Proofs.Ytgggngcgcpmkbaa
set_option linter.unusedVariables false
set_option maxRecDepth 2000
set_option linter.unusedSimpArgs false
open Go.RowKit
attribute [local go_sem] setCell_twice setCell_pair
attribute [local go_sem ↓] run_mn3 run_mx3

def rnd (x : Int) : Int := (x / 2147483648 + 1) / 2
def onGrid (x y z : Int) : Bool := decide (-65536 ≤ x ∧ x ≤ 65536 ∧ -65536 ≤ y ∧ y ≤ 65536 ∧ -65536 ≤ z ∧ z ≤ 65536)
def snapV (x y z : Int) : Value := if onGrid x y z then .tuple #[.agg #[.int .i64 x, .int .i64 y, .int .i64 z], .int .i64 0] else .tuple #[.agg #[.int .i64 0, .int .i64 0, .int .i64 0], .int .i64 8]
theorem snapV_yes (x y z : Int) (h : -65536 ≤ x ∧ x ≤ 65536 ∧ -65536 ≤ y ∧ y ≤ 65536 ∧ -65536 ≤ z ∧ z ≤ 65536) : snapV x y z = .tuple #[.agg #[.int .i64 x, .int .i64 y, .int .i64 z], .int .i64 0] := by
  have e : onGrid x y z = true := by simpa [onGrid] using h
  rw [snapV, e]; rfl
theorem snapV_no (x y z : Int) (h : ¬ (-65536 ≤ x ∧ x ≤ 65536 ∧ -65536 ≤ y ∧ y ≤ 65536 ∧ -65536 ≤ z ∧ z ≤ 65536)) : snapV x y z = .tuple #[.agg #[.int .i64 0, .int .i64 0, .int .i64 0], .int .i64 8] := by
  have e : onGrid x y z = false := by simpa [onGrid] using h
  rw [snapV, e]; rfl

set_option maxHeartbeats 2000000 in
theorem Snap_core (x y z p q r : Int) (w : World) (bp : Hid (-4294967296 ≤ p ∧ p ≤ 4294967296 ∧ -4294967296 ≤ q ∧ q ≤ 4294967296 ∧ -4294967296 ≤ r ∧ r ≤ 4294967296))
    (rdx : Hid (∀ w, Calls Try.prog 112 #[.int .i64 x] w fun e w' => e = .returned (.int .i64 p) ∧ Below w.heap.size w w'))
    (rdy : Hid (∀ w, Calls Try.prog 112 #[.int .i64 y] w fun e w' => e = .returned (.int .i64 q) ∧ Below w.heap.size w w'))
    (rdz : Hid (∀ w, Calls Try.prog 112 #[.int .i64 z] w fun e w' => e = .returned (.int .i64 r) ∧ Below w.heap.size w w')) :
    Calls Try.prog 96 #[.agg #[.int .i64 x, .int .i64 y, .int .i64 z]] w fun e w' => e = .returned (snapV p q r) ∧ Below w.heap.size w w' := by
  go_enter Try.func96, Try.ntmps96
  go_wp2_with (fail)
  obtain ⟨W0, hW⟩ : ∃ W0, W0 = ((w.alloc (.cells #[.int .i64 x, .int .i64 y, .int .i64 z] 36)).alloc (.cells #[.int .i64 0, .int .i64 0, .int .i64 0] 24)) := ⟨_, rfl⟩
  have hB0 : Below w.heap.size w W0 := hW ▸ (by repeat (first | (with_reducible exact Below.refl _ _) | (with_reducible assumption) | (with_reducible refine below_drewN ?_ _) | (with_reducible refine Below.drew ?_) | (with_reducible refine Below.alloc ?_ ?_ _) | (with_reducible refine Below.setCell ?_ ?_ _) | (with_reducible exact Nat.le_refl _) | exact Nat.le_succ _ | (simp; done) | (simp; omega) | omega | fail))
  have HA : Hid (Own w.heap.size [.int .i64 x, .int .i64 y, .int .i64 z] W0) := Lib.hid (hW ▸ (Own.newAt rfl).alloc)
  have HR : Hid (Own (w.heap.size + 1) [.int .i64 0, .int .i64 0, .int .i64 0] W0) := Lib.hid (hW ▸ Own.newAt (by simp))
  rw [← hW]
  clear hW
  obtain ⟨R, hR⟩ : ∃ R, R = w.heap.size + 1 := ⟨_, rfl⟩
  obtain ⟨A, hA⟩ : ∃ A, A = w.heap.size := ⟨_, rfl⟩
  rw [← hR] at HR ⊢
  rw [← hA] at HA ⊢
  have hRw : w.heap.size ≤ R := by omega
  have hAw : w.heap.size ≤ A := by omega
  clear hR hA
  refine wp_region_inv 12 (by kernel_rfl) (by kernel_rfl) rfl (fun d a w => ∃ (x4 : Value) (x5 : Value) (x6 : Value) (x7 : Value) (x8 : Value) (x9 : Value) (x10 : Value) (x11 : Value) (x12 : Value) (x13 : Value) (x14 : Value) (b : Nat), a = ⟨#[.agg #[.int .i64 x, .int .i64 y, .int .i64 z], .pointer (some ⟨A, 0, none⟩), .pointer (some ⟨R, 0, none⟩), .int .i64 0, x4, x5, x6, x7, x8, x9, x10, x11, x12, x13, x14, undef, undef, undef, undef, undef, undef, undef, undef, undef, undef, undef, undef, undef, undef, undef, undef, undef, undef, undef, undef], []⟩ ∧ Below W0.heap.size W0 w ∧ (d 0 = true → x5 = .pointer (some ⟨A, 0, none⟩)) ∧ (d 1 = true → x6 = .int .i64 x) ∧ (d 2 = true → x7 = .int .i64 p) ∧ (d 3 = true → x8 = .pointer (some ⟨A, 1, none⟩)) ∧ (d 4 = true → x9 = .int .i64 y) ∧ (d 5 = true → x10 = .int .i64 q) ∧ (d 6 = true → x11 = .pointer (some ⟨A, 2, none⟩)) ∧ (d 7 = true → x12 = .int .i64 z) ∧ (d 8 = true → x13 = .int .i64 r) ∧ (d 9 = true → x14 = .agg #[.int .i64 p, .int .i64 q, .int .i64 r]) ∧ (d 10 = true → x4 = .pointer (some ⟨b, 0, none⟩) ∧ W0.heap.size ≤ b) ∧ (d 10 = true → d 11 = false → Own b [.int .i64 0, .int .i64 0, .int .i64 0] w) ∧ (d 11 = true → Own b [.int .i64 p, .int .i64 q, .int .i64 r] w) ∧ (d 11 = true → d 10 = true)) ?h0 (?st : StepsOf _ _ _ _ 12 _ [0, 1, 2, 3, 4, 5, 6, 7, 8, 9, 10, 11]) ?dn
  case h0 => exact ⟨undef, undef, undef, undef, undef, undef, undef, undef, undef, undef, undef, 0, rfl, (Below.refl _ _).drew, (fun h => nomatch h), (fun h => nomatch h), (fun h => nomatch h), (fun h => nomatch h), (fun h => nomatch h), (fun h => nomatch h), (fun h => nomatch h), (fun h => nomatch h), (fun h => nomatch h), (fun h => nomatch h), (fun h => nomatch h), (fun h => nomatch h), (fun h => nomatch h), (fun h => nomatch h)⟩
  case st =>
    refine StepsOf.cons (o := _) rfl (ws := []) (by kernel_rfl) (by decide) (fun d a w hI hd hw K hK => ?_) ?_
    · obtain ⟨x4, x5, x6, x7, x8, x9, x10, x11, x12, x13, x14, b, rfl, hB, f0, f1, f2, f3, f4, f5, f6, f7, f8, f9, f10, g10, f11, s11⟩ := hI
      go_simp
      exact hK _ _ ⟨_, _, _, _, _, _, _, _, _, _, _, b, rfl, hB, (fun _ => rfl), f1, f2, f3, f4, f5, f6, f7, f8, f9, f10, g10, f11, s11⟩
    refine StepsOf.cons (o := _) rfl (ws := [0]) (by kernel_rfl) (by decide) (fun d a w hI hd hw K hK => ?_) ?_
    · obtain ⟨x4, x5, x6, x7, x8, x9, x10, x11, x12, x13, x14, b, rfl, hB, f0, f1, f2, f3, f4, f5, f6, f7, f8, f9, f10, g10, f11, s11⟩ := hI
      obtain rfl := f0 (hw 0 (by decide))
      have oa := HA.out.later hB
      have a0 := oa.at 0 _ rfl
      have a1 := oa.at 1 _ rfl
      have a2 := oa.at 2 _ rfl
      clear oa
      go_simp
      exact hK _ _ ⟨_, _, _, _, _, _, _, _, _, _, _, b, rfl, hB, f0, (fun _ => rfl), f2, f3, f4, f5, f6, f7, f8, f9, f10, g10, f11, s11⟩
    refine StepsOf.cons (o := _) rfl (ws := [1]) (by kernel_rfl) (by decide) (fun d a w hI hd hw K hK => ?_) ?_
    · obtain ⟨x4, x5, x6, x7, x8, x9, x10, x11, x12, x13, x14, b, rfl, hB, f0, f1, f2, f3, f4, f5, f6, f7, f8, f9, f10, g10, f11, s11⟩ := hI
      obtain rfl := f1 (hw 1 (by decide))
      go_simp
      go_at_call 112
      refine (rdx.out _).mono ?_
      rintro e w1 ⟨rfl, hb⟩
      exact hK _ _ ⟨_, _, _, _, _, _, _, _, _, _, _, b, rfl, (Below.go hB hb), f0, f1, (fun _ => rfl), f3, f4, f5, f6, f7, f8, f9, f10, (fun h h2 => (g10 h h2).later hb), (fun h => (f11 h).later hb), s11⟩
    refine StepsOf.cons (o := _) rfl (ws := []) (by kernel_rfl) (by decide) (fun d a w hI hd hw K hK => ?_) ?_
    · obtain ⟨x4, x5, x6, x7, x8, x9, x10, x11, x12, x13, x14, b, rfl, hB, f0, f1, f2, f3, f4, f5, f6, f7, f8, f9, f10, g10, f11, s11⟩ := hI
      go_simp
      exact hK _ _ ⟨_, _, _, _, _, _, _, _, _, _, _, b, rfl, hB, f0, f1, f2, (fun _ => rfl), f4, f5, f6, f7, f8, f9, f10, g10, f11, s11⟩
    refine StepsOf.cons (o := _) rfl (ws := [3]) (by kernel_rfl) (by decide) (fun d a w hI hd hw K hK => ?_) ?_
    · obtain ⟨x4, x5, x6, x7, x8, x9, x10, x11, x12, x13, x14, b, rfl, hB, f0, f1, f2, f3, f4, f5, f6, f7, f8, f9, f10, g10, f11, s11⟩ := hI
      obtain rfl := f3 (hw 3 (by decide))
      have oa := HA.out.later hB
      have a0 := oa.at 0 _ rfl
      have a1 := oa.at 1 _ rfl
      have a2 := oa.at 2 _ rfl
      clear oa
      go_simp
      exact hK _ _ ⟨_, _, _, _, _, _, _, _, _, _, _, b, rfl, hB, f0, f1, f2, f3, (fun _ => rfl), f5, f6, f7, f8, f9, f10, g10, f11, s11⟩
    refine StepsOf.cons (o := _) rfl (ws := [4, 2]) (by kernel_rfl) (by decide) (fun d a w hI hd hw K hK => ?_) ?_
    · obtain ⟨x4, x5, x6, x7, x8, x9, x10, x11, x12, x13, x14, b, rfl, hB, f0, f1, f2, f3, f4, f5, f6, f7, f8, f9, f10, g10, f11, s11⟩ := hI
      obtain rfl := f2 (hw 2 (by decide))
      obtain rfl := f4 (hw 4 (by decide))
      go_simp
      go_at_call 112
      refine (rdy.out _).mono ?_
      rintro e w1 ⟨rfl, hb⟩
      exact hK _ _ ⟨_, _, _, _, _, _, _, _, _, _, _, b, rfl, (Below.go hB hb), f0, f1, f2, f3, f4, (fun _ => rfl), f6, f7, f8, f9, f10, (fun h h2 => (g10 h h2).later hb), (fun h => (f11 h).later hb), s11⟩
    refine StepsOf.cons (o := _) rfl (ws := []) (by kernel_rfl) (by decide) (fun d a w hI hd hw K hK => ?_) ?_
    · obtain ⟨x4, x5, x6, x7, x8, x9, x10, x11, x12, x13, x14, b, rfl, hB, f0, f1, f2, f3, f4, f5, f6, f7, f8, f9, f10, g10, f11, s11⟩ := hI
      go_simp
      exact hK _ _ ⟨_, _, _, _, _, _, _, _, _, _, _, b, rfl, hB, f0, f1, f2, f3, f4, f5, (fun _ => rfl), f7, f8, f9, f10, g10, f11, s11⟩
    refine StepsOf.cons (o := _) rfl (ws := [6]) (by kernel_rfl) (by decide) (fun d a w hI hd hw K hK => ?_) ?_
    · obtain ⟨x4, x5, x6, x7, x8, x9, x10, x11, x12, x13, x14, b, rfl, hB, f0, f1, f2, f3, f4, f5, f6, f7, f8, f9, f10, g10, f11, s11⟩ := hI
      obtain rfl := f6 (hw 6 (by decide))
      have oa := HA.out.later hB
      have a0 := oa.at 0 _ rfl
      have a1 := oa.at 1 _ rfl
      have a2 := oa.at 2 _ rfl
      clear oa
      go_simp
      exact hK _ _ ⟨_, _, _, _, _, _, _, _, _, _, _, b, rfl, hB, f0, f1, f2, f3, f4, f5, f6, (fun _ => rfl), f8, f9, f10, g10, f11, s11⟩
    refine StepsOf.cons (o := _) rfl (ws := [7, 5]) (by kernel_rfl) (by decide) (fun d a w hI hd hw K hK => ?_) ?_
    · obtain ⟨x4, x5, x6, x7, x8, x9, x10, x11, x12, x13, x14, b, rfl, hB, f0, f1, f2, f3, f4, f5, f6, f7, f8, f9, f10, g10, f11, s11⟩ := hI
      obtain rfl := f5 (hw 5 (by decide))
      obtain rfl := f7 (hw 7 (by decide))
      go_simp
      go_at_call 112
      refine (rdz.out _).mono ?_
      rintro e w1 ⟨rfl, hb⟩
      exact hK _ _ ⟨_, _, _, _, _, _, _, _, _, _, _, b, rfl, (Below.go hB hb), f0, f1, f2, f3, f4, f5, f6, f7, (fun _ => rfl), f9, f10, (fun h h2 => (g10 h h2).later hb), (fun h => (f11 h).later hb), s11⟩
    refine StepsOf.cons (o := _) rfl (ws := [2, 5, 8]) (by kernel_rfl) (by decide) (fun d a w hI hd hw K hK => ?_) ?_
    · obtain ⟨x4, x5, x6, x7, x8, x9, x10, x11, x12, x13, x14, b, rfl, hB, f0, f1, f2, f3, f4, f5, f6, f7, f8, f9, f10, g10, f11, s11⟩ := hI
      obtain rfl := f2 (hw 2 (by decide))
      obtain rfl := f5 (hw 5 (by decide))
      obtain rfl := f8 (hw 8 (by decide))
      go_simp
      exact hK _ _ ⟨_, _, _, _, _, _, _, _, _, _, _, b, rfl, hB, f0, f1, f2, f3, f4, f5, f6, f7, f8, (fun _ => rfl), f10, g10, f11, s11⟩
    refine StepsOf.cons (o := _) rfl (ws := []) (by kernel_rfl) (by decide) (fun d a w hI hd hw K hK => ?_) ?_
    · obtain ⟨x4, x5, x6, x7, x8, x9, x10, x11, x12, x13, x14, b, rfl, hB, f0, f1, f2, f3, f4, f5, f6, f7, f8, f9, f10, g10, f11, s11⟩ := hI
      go_simp
      exact hK _ _ ⟨_, _, _, _, _, _, _, _, _, _, _, _, rfl, (hB.alloc hB.size _), f0, f1, f2, f3, f4, f5, f6, f7, f8, f9, (fun _ => ⟨rfl, hB.size⟩), (fun _ _ => Own.newAt rfl), (fun h => absurd (s11 h) (by simp [hd])), (fun _ => rfl)⟩
    refine StepsOf.cons (o := _) rfl (ws := [10, 9, 8, 0, 1, 2, 3, 4, 5, 6, 7, 8, 9, 10]) (by kernel_rfl) (by decide) (fun d a w hI hd hw K hK => ?_) ?_
    · obtain ⟨x4, x5, x6, x7, x8, x9, x10, x11, x12, x13, x14, b, rfl, hB, f0, f1, f2, f3, f4, f5, f6, f7, f8, f9, f10, g10, f11, s11⟩ := hI
      obtain rfl := f0 (hw 0 (by decide))
      obtain rfl := f1 (hw 1 (by decide))
      obtain rfl := f2 (hw 2 (by decide))
      obtain rfl := f3 (hw 3 (by decide))
      obtain rfl := f4 (hw 4 (by decide))
      obtain rfl := f5 (hw 5 (by decide))
      obtain rfl := f6 (hw 6 (by decide))
      obtain rfl := f7 (hw 7 (by decide))
      obtain rfl := f8 (hw 8 (by decide))
      obtain rfl := f9 (hw 9 (by decide))
      obtain ⟨rfl, le10⟩ := f10 (hw 10 (by decide))
      have o10 := g10 (hw 10 (by decide)) hd
      have fr0 := o10.ok 0 (by decide)
      have fr1 := o10.ok 1 (by decide)
      have fr2 := o10.ok 2 (by decide)
      have ce0 := o10.at 0 _ rfl
      have ce1 := o10.at 1 _ rfl
      have ce2 := o10.at 2 _ rfl
      go_simp
      exact hK _ _ ⟨_, _, _, _, _, _, _, _, _, _, _, b, rfl, (Below.setCells hB le10 [.int .i64 p, .int .i64 q, .int .i64 r] 0), f0, f1, f2, f3, f4, f5, f6, f7, f8, f9, f10, (fun _ h => nomatch h), (fun _ => Own.store (vs := [.int .i64 p, .int .i64 q, .int .i64 r]) o10 rfl), (fun _ => hw 10 (by decide))⟩
    exact StepsOf.nil
  intro d a w1 hI hall
  obtain ⟨x4, x5, x6, x7, x8, x9, x10, x11, x12, x13, x14, b, rfl, hB, f0, f1, f2, f3, f4, f5, f6, f7, f8, f9, f10, g10, f11, s11⟩ := hI
  obtain rfl := f0 (hall 0 (by decide))
  obtain rfl := f1 (hall 1 (by decide))
  obtain rfl := f2 (hall 2 (by decide))
  obtain rfl := f3 (hall 3 (by decide))
  obtain rfl := f4 (hall 4 (by decide))
  obtain rfl := f5 (hall 5 (by decide))
  obtain rfl := f6 (hall 6 (by decide))
  obtain rfl := f7 (hall 7 (by decide))
  obtain rfl := f8 (hall 8 (by decide))
  obtain rfl := f9 (hall 9 (by decide))
  obtain ⟨rfl, le10⟩ := f10 (hall 10 (by decide))
  clear g10
  replace f11 := f11 (hall 11 (by decide))
  clear hall f0 f1 f2 f3 f4 f5 f6 f7 f8 f9 s11 f10
  have hB1 : Below w.heap.size w w1 := Below.next hB0 hB hB0.size
  have oR := HR.out.later hB
  have c0 := f11.at 0 _ rfl; have c1 := f11.at 1 _ rfl; have c2 := f11.at 2 _ rfl
  have r0 := oR.at 0 _ rfl; have r1 := oR.at 1 _ rfl; have r2 := oR.at 2 _ rfl
  have k0 := oR.ok 0 (by decide); have k1 := oR.ok 1 (by decide); have k2 := oR.ok 2 (by decide)
  have hRl := oR.lt
  have bp' := bp.out
  clear rdx rdy rdz HA HR f11 oR hB hB0 bp
  by_cases g : -65536 ≤ p ∧ p ≤ 65536 ∧ -65536 ≤ q ∧ q ≤ 65536 ∧ -65536 ≤ r ∧ r ≤ 65536
  · have HV := Lib.hid (snapV_yes p q r g)
    have e1 : decide (mn3 p q r < -65536) = false := by simp [mn3_lt]; omega
    have e2 : decide (65536 < mx3 p q r) = false := by simp [mx3_gt]; omega
    clear g bp'
    go_wp2_with (fail)
    exact bodyPost_ret (v := .tuple #[.agg #[.int .i64 p, .int .i64 q, .int .i64 r], .int .i64 0]) (by simp [results, Try.results96, go_sem, c0, c1, c2, r0, r1, r2]) rfl ⟨by rw [HV.out], (by repeat (first | (with_reducible exact Below.refl _ _) | (with_reducible assumption) | (with_reducible refine below_drewN ?_ _) | (with_reducible refine Below.drew ?_) | (with_reducible refine Below.alloc ?_ ?_ _) | (with_reducible refine Below.setCell ?_ ?_ _) | (with_reducible exact Nat.le_refl _) | exact Nat.le_succ _ | (simp; done) | (simp; omega) | omega | fail))⟩
  · have HV := Lib.hid (snapV_no p q r g)
    have g' : mn3 p q r < -65536 ∨ 65536 < mx3 p q r := by rw [mn3_lt, mx3_gt]; omega
    clear g bp'
    by_cases e1 : mn3 p q r < -65536
    · clear g'
      have e2 : decide (mn3 p q r < -65536) = true := by simpa using e1
      clear e1
      go_wp2_with (fail)
      exact bodyPost_ret (v := .tuple #[.agg #[.int .i64 0, .int .i64 0, .int .i64 0], .int .i64 8]) (by simp [results, Try.results96, go_sem, c0, c1, c2, r0, r1, r2]) rfl ⟨by rw [HV.out], (by repeat (first | (with_reducible exact Below.refl _ _) | (with_reducible assumption) | (with_reducible refine below_drewN ?_ _) | (with_reducible refine Below.drew ?_) | (with_reducible refine Below.alloc ?_ ?_ _) | (with_reducible refine Below.setCell ?_ ?_ _) | (with_reducible exact Nat.le_refl _) | exact Nat.le_succ _ | (simp; done) | (simp; omega) | omega | fail))⟩
    · have e2 : decide (mn3 p q r < -65536) = false := by simpa using e1
      have e3 : decide (65536 < mx3 p q r) = true := by simpa using g'.resolve_left e1
      clear e1 g'
      go_wp2_with (fail)
      exact bodyPost_ret (v := .tuple #[.agg #[.int .i64 0, .int .i64 0, .int .i64 0], .int .i64 8]) (by simp [results, Try.results96, go_sem, c0, c1, c2, r0, r1, r2]) rfl ⟨by rw [HV.out], (by repeat (first | (with_reducible exact Below.refl _ _) | (with_reducible assumption) | (with_reducible refine below_drewN ?_ _) | (with_reducible refine Below.drew ?_) | (with_reducible refine Below.alloc ?_ ?_ _) | (with_reducible refine Below.setCell ?_ ?_ _) | (with_reducible exact Nat.le_refl _) | exact Nat.le_succ _ | (simp; done) | (simp; omega) | omega | fail))⟩

theorem rnd_bd (x : Int) (h : in64 x) : -4294967296 ≤ rnd x ∧ rnd x ≤ 4294967296 := by unfold in64 at h; unfold rnd; omega
theorem Snap_any (x y z : Int) (hx : in64 x) (hy : in64 y) (hz : in64 z) (w : World) :
    Calls Try.prog 96 #[.agg #[.int .i64 x, .int .i64 y, .int .i64 z]] w fun e w' => e = .returned (snapV (rnd x) (rnd y) (rnd z)) ∧ Below w.heap.size w w' :=
  Snap_core x y z _ _ _ w (Lib.hid (by have := rnd_bd x hx; have := rnd_bd y hy; have := rnd_bd z hz; omega)) (Lib.hid fun w => below_of_eq (FRound_any x hx.1 hx.2 w)) (Lib.hid fun w => below_of_eq (FRound_any y hy.1 hy.2 w)) (Lib.hid fun w => below_of_eq (FRound_any z hz.1 hz.2 w))
end Go.Proofs.Ytgggngcgcpmkbaa
