/- umbralaw04.AffineGrid: the walk. -/
import Derived.Test.YtalanlekdgobmaaAM
import Derived.Deep.DeepCutAuto
namespace Go.Proofs.Ytalanlekdgobmaa
set_option linter.unusedVariables false
set_option maxRecDepth 2000
set_option linter.unusedSimpArgs false
open Go.RowKit
attribute [local go_sem] setCell_twice setCell_pair
attribute [local go_sem ↓] run_mn3 run_mx3

set_option maxHeartbeats 8000000 in
theorem Grid_ay (a : Aff) (px py pz X Y Z ox oy oz : Int) (hq : Hid (-65536 ≤ X ∧ X ≤ 65536 ∧ -65536 ≤ Y ∧ Y ≤ 65536 ∧ -65536 ≤ Z ∧ Z ≤ 65536)) (hon : Hid ((-65536 ≤ px ∧ px ≤ 65536 ∧ -65536 ≤ py ∧ py ≤ 65536 ∧ -65536 ≤ pz ∧ pz ≤ 65536))) (w : World)
    (k0 : Hid (∀ w, Calls Try.prog 32 #[(.agg #[.int .i64 a.m0, .int .i64 a.m1, .int .i64 a.m2, .int .i64 a.m3, .int .i64 a.m4, .int .i64 a.m5, .int .i64 a.m6, .int .i64 a.m7, .int .i64 a.m8, .int .i64 a.tx, .int .i64 a.ty, .int .i64 a.tz]), (.agg #[.int .i64 px, .int .i64 py, .int .i64 pz])] w fun e w' => e = .returned (.tuple #[(.agg #[.int .i64 X, .int .i64 Y, .int .i64 Z]), .int .i64 0]) ∧ Below w.heap.size w w'))
    (k1 : Hid (∀ w, Calls Try.prog 38 #[(.agg #[.int .i64 X, .int .i64 Y, .int .i64 Z])] w fun e w' => e = .returned (.agg #[.int .i64 ox, .int .i64 oy, .int .i64 oz]) ∧ Below w.heap.size w w'))
    (k2 : Hid (∀ w, Calls Try.prog 34 #[(.agg #[.int .i64 ox, .int .i64 oy, .int .i64 oz])] w fun e w' => e = .returned (.tuple #[(.agg #[.int .i64 X, .int .i64 Y, .int .i64 Z]), .int .i64 0]) ∧ Below w.heap.size w w'))
    (k3 : Hid (∀ w, Calls Try.prog 15 #[] w fun e w' => e = .returned (.agg #[.int .i64 4294967296, .int .i64 0, .int .i64 0, .int .i64 0, .int .i64 4294967296, .int .i64 0, .int .i64 0, .int .i64 0, .int .i64 4294967296, .int .i64 0, .int .i64 0, .int .i64 0]) ∧ Below w.heap.size w w'))
    (k4 : Hid (∀ w, Calls Try.prog 32 #[(.agg #[.int .i64 4294967296, .int .i64 0, .int .i64 0, .int .i64 0, .int .i64 4294967296, .int .i64 0, .int .i64 0, .int .i64 0, .int .i64 4294967296, .int .i64 0, .int .i64 0, .int .i64 0]), (.agg #[.int .i64 px, .int .i64 py, .int .i64 pz])] w fun e w' => e = .returned (.tuple #[(.agg #[.int .i64 px, .int .i64 py, .int .i64 pz]), .int .i64 0]) ∧ Below w.heap.size w w'))
    (k6 : Hid (∀ w, Calls Try.prog 23 #[] w fun e w' => e = .returned (.bool true) ∧ Below w.heap.size w w')) :
    Calls Try.prog 9 #[(.agg #[.int .i64 a.m0, .int .i64 a.m1, .int .i64 a.m2, .int .i64 a.m3, .int .i64 a.m4, .int .i64 a.m5, .int .i64 a.m6, .int .i64 a.m7, .int .i64 a.m8, .int .i64 a.tx, .int .i64 a.ty, .int .i64 a.tz]), (.agg #[.int .i64 px, .int .i64 py, .int .i64 pz])] w fun e w' => e = .returned (.bool true) ∧ Below w.heap.size w w' := by
  go_enter Try.func9, Try.ntmps9
  go_upto_region 1 with fail
  obtain ⟨W0, hW⟩ : ∃ W0, W0 = ((w.alloc (.cells #[.int .i64 a.m0, .int .i64 a.m1, .int .i64 a.m2, .int .i64 a.m3, .int .i64 a.m4, .int .i64 a.m5, .int .i64 a.m6, .int .i64 a.m7, .int .i64 a.m8, .int .i64 a.tx, .int .i64 a.ty, .int .i64 a.tz] 29)).alloc (.cells #[.int .i64 px, .int .i64 py, .int .i64 pz] 48)) := ⟨_, rfl⟩
  have hB0 : Below w.heap.size w W0 := hW ▸ (Below.al (Below.al (Below.refl _ _)))
  have HA : Hid (Own w.heap.size [.int .i64 a.m0, .int .i64 a.m1, .int .i64 a.m2, .int .i64 a.m3, .int .i64 a.m4, .int .i64 a.m5, .int .i64 a.m6, .int .i64 a.m7, .int .i64 a.m8, .int .i64 a.tx, .int .i64 a.ty, .int .i64 a.tz] W0) := Lib.hid (hW ▸ (Own.newAt (by simp)).alloc)
  have HP : Hid (Own (w.heap.size + 1) [.int .i64 px, .int .i64 py, .int .i64 pz] W0) := Lib.hid (hW ▸ (Own.newAt (by simp)))
  rw [← hW]
  clear hW
  obtain ⟨P, eP⟩ : ∃ X, X = (w.heap.size + 1) := ⟨_, rfl⟩
  rw [← eP] at HP ⊢
  have Pw : w.heap.size ≤ P := by omega
  obtain ⟨A, eA⟩ : ∃ X, X = w.heap.size := ⟨_, rfl⟩
  rw [← eA] at HA ⊢
  have Aw : w.heap.size ≤ A := by omega
  have nAP : A ≠ P := by omega
  have nPA : P ≠ A := by omega
  clear eA eP
  have oA := HA.out
  have A0 := oA.at 0 _ rfl
  have A1 := oA.at 1 _ rfl
  have A2 := oA.at 2 _ rfl
  have A3 := oA.at 3 _ rfl
  have A4 := oA.at 4 _ rfl
  have A5 := oA.at 5 _ rfl
  have A6 := oA.at 6 _ rfl
  have A7 := oA.at 7 _ rfl
  have A8 := oA.at 8 _ rfl
  have A9 := oA.at 9 _ rfl
  have A10 := oA.at 10 _ rfl
  have A11 := oA.at 11 _ rfl
  have Al := oA.lt
  clear oA
  have oP := HP.out
  have P0 := oP.at 0 _ rfl
  have P1 := oP.at 1 _ rfl
  have P2 := oP.at 2 _ rfl
  have Pl := oP.lt
  clear oP
  go_upto_region 2 with (go_at_call 32; refine (k0.out _).mono ?_; rintro e y0 ⟨rfl, hb⟩)
  replace HP := Lib.hid (HP.out.later hb)
  have gB : Below w.heap.size w y0 := Below.go hB0 hb
  clear hb hB0 HA k0 A0 A1 A2 A3 A4 A5 A6 A7 A8 A9 A10 A11 Al P0 P1 P2 Pl
  obtain ⟨U0, hW⟩ : ∃ U0, U0 = (y0.alloc (.cells #[.int .i64 X, .int .i64 Y, .int .i64 Z] 48)) := ⟨_, rfl⟩
  have hq0 : Below y0.heap.size y0 U0 := hW ▸ (Below.al (Below.refl _ _))
  have HN0 : Hid (Own y0.heap.size [.int .i64 X, .int .i64 Y, .int .i64 Z] U0) := Lib.hid (hW ▸ (Own.newAt (by simp)))
  rw [← hW]
  clear hW
  obtain ⟨N0, eN0⟩ : ∃ X, X = y0.heap.size := ⟨_, rfl⟩
  rw [← eN0] at HN0 ⊢
  have N0w : y0.heap.size ≤ N0 := by omega
  clear eN0
  replace HP := Lib.hid (HP.out.later hq0)
  have hB1 : Below w.heap.size w U0 := Below.go gB hq0
  clear hq0 gB N0w
  have oN0 := HN0.out
  have N00 := oN0.at 0 _ rfl
  have N01 := oN0.at 1 _ rfl
  have N02 := oN0.at 2 _ rfl
  have N0l := oN0.lt
  clear oN0
  go_upto_region 4 with (first | (go_at_call 38; refine (k1.out _).mono ?_; rintro e y1 ⟨rfl, hb1⟩) | (go_at_call 34; refine (k2.out _).mono ?_; rintro e y2 ⟨rfl, hb2⟩))
  have hb : Below U0.heap.size U0 y2 := Below.go hb1 hb2
  replace HP := Lib.hid (HP.out.later hb); replace HN0 := Lib.hid (HN0.out.later hb)
  have gB : Below w.heap.size w y2 := Below.go hB1 hb
  clear hb hb1 hb2 hB1 k1 k2 N00 N01 N02 N0l
  obtain ⟨U1, hW⟩ : ∃ U1, U1 = (y2.alloc (.cells #[.int .i64 X, .int .i64 Y, .int .i64 Z] 48)) := ⟨_, rfl⟩
  have hq0 : Below y2.heap.size y2 U1 := hW ▸ (Below.al (Below.refl _ _))
  have HN1 : Hid (Own y2.heap.size [.int .i64 X, .int .i64 Y, .int .i64 Z] U1) := Lib.hid (hW ▸ (Own.newAt (by simp)))
  rw [← hW]
  clear hW
  obtain ⟨N1, eN1⟩ : ∃ X, X = y2.heap.size := ⟨_, rfl⟩
  rw [← eN1] at HN1 ⊢
  have N1w : y2.heap.size ≤ N1 := by omega
  clear eN1
  replace HP := Lib.hid (HP.out.later hq0); replace HN0 := Lib.hid (HN0.out.later hq0)
  have hB2 : Below w.heap.size w U1 := Below.go gB hq0
  clear hq0 gB N1w
  have e1 : decide (65536 < mx3 X Y Z) = false := by have := hq.out; simp [mx3_gt]; omega
  have e2 : decide (mn3 X Y Z < -65536) = false := by have := hq.out; simp [mn3_lt]; omega
  have oN0 := HN0.out
  have N00 := oN0.at 0 _ rfl
  have N01 := oN0.at 1 _ rfl
  have N02 := oN0.at 2 _ rfl
  have N0l := oN0.lt
  clear oN0
  have oN1 := HN1.out
  have N10 := oN1.at 0 _ rfl
  have N11 := oN1.at 1 _ rfl
  have N12 := oN1.at 2 _ rfl
  have N1l := oN1.lt
  clear oN1
  go_wp2_with (fail)
  clear N00 N01 N02 N0l N10 N11 N12 N1l e1 e2 HN0 HN1 hq
  refine wp_region_fun 9 (by kernel_rfl) (by kernel_rfl) rfl (fun s b => ⟨#[(.agg #[.int .i64 a.m0, .int .i64 a.m1, .int .i64 a.m2, .int .i64 a.m3, .int .i64 a.m4, .int .i64 a.m5, .int .i64 a.m6, .int .i64 a.m7, .int .i64 a.m8, .int .i64 a.tx, .int .i64 a.ty, .int .i64 a.tz]), (.agg #[.int .i64 px, .int .i64 py, .int .i64 pz]), .pointer (some ⟨A, 0, none⟩), .pointer (some ⟨P, 0, none⟩), .bool false, .pointer (some ⟨N0, 0, none⟩), .int .i64 0, .pointer (some ⟨N1, 0, none⟩), .int .i64 0, s 9, s 10, undef, .tuple #[(.agg #[.int .i64 X, .int .i64 Y, .int .i64 Z]), .int .i64 0], (.agg #[.int .i64 a.m0, .int .i64 a.m1, .int .i64 a.m2, .int .i64 a.m3, .int .i64 a.m4, .int .i64 a.m5, .int .i64 a.m6, .int .i64 a.m7, .int .i64 a.m8, .int .i64 a.tx, .int .i64 a.ty, .int .i64 a.tz]), (.agg #[.int .i64 px, .int .i64 py, .int .i64 pz]), .tuple #[(.agg #[.int .i64 X, .int .i64 Y, .int .i64 Z]), .int .i64 0], (.agg #[.int .i64 X, .int .i64 Y, .int .i64 Z]), .int .i64 0, .int .i64 0, .bool true, .tuple #[(.agg #[.int .i64 X, .int .i64 Y, .int .i64 Z]), .int .i64 0], (.agg #[.int .i64 X, .int .i64 Y, .int .i64 Z]), (.agg #[.int .i64 ox, .int .i64 oy, .int .i64 oz]), .tuple #[(.agg #[.int .i64 X, .int .i64 Y, .int .i64 Z]), .int .i64 0], (.agg #[.int .i64 X, .int .i64 Y, .int .i64 Z]), .int .i64 0, .int .i64 0, .bool false, .bool false, (.agg #[.int .i64 X, .int .i64 Y, .int .i64 Z]), (.agg #[.int .i64 X, .int .i64 Y, .int .i64 Z]), .bool false, .bool false, .bool false, .pointer (some ⟨N0, 0, none⟩), .int .i64 X, .pointer (some ⟨N0, 1, none⟩), .int .i64 Y, .pointer (some ⟨N0, 2, none⟩), .int .i64 Z, .int .i64 (mx3 X Y Z), .bool false, .bool false, .bool false, .pointer (some ⟨N0, 0, none⟩), .int .i64 X, .pointer (some ⟨N0, 1, none⟩), .int .i64 Y, .pointer (some ⟨N0, 2, none⟩), .int .i64 Z, .int .i64 (mn3 X Y Z), .bool false, .bool false, s 53, s 54, s 55, s 56, s 57, s 58, undef, undef, undef, undef, undef, undef, undef, undef, undef, undef, undef, undef, undef, undef, undef, undef, undef, undef, undef, undef, undef, undef, undef, undef, undef, undef, undef, undef, undef, undef, undef, undef, undef, undef], []⟩) (fun d s b w => (Below U1.heap.size U1 w) ∧ (d 0 = true → s 54 = (.agg #[.int .i64 4294967296, .int .i64 0, .int .i64 0, .int .i64 0, .int .i64 4294967296, .int .i64 0, .int .i64 0, .int .i64 0, .int .i64 4294967296, .int .i64 0, .int .i64 0, .int .i64 0])) ∧ (d 1 = true → s 55 = (.agg #[.int .i64 px, .int .i64 py, .int .i64 pz])) ∧ (d 2 = true → s 56 = .tuple #[(.agg #[.int .i64 px, .int .i64 py, .int .i64 pz]), .int .i64 0]) ∧ (d 3 = true → s 53 = .tuple #[(.agg #[.int .i64 px, .int .i64 py, .int .i64 pz]), .int .i64 0]) ∧ (d 4 = true → s 57 = (.agg #[.int .i64 px, .int .i64 py, .int .i64 pz])) ∧ (d 5 = true → s 58 = .int .i64 0) ∧ (d 6 = true → s 9 = .pointer (some ⟨(b 6), 0, none⟩) ∧ U1.heap.size ≤ b 6) ∧ (d 6 = true → d 7 = false → Own (b 6) [.int .i64 0, .int .i64 0, .int .i64 0] w) ∧ (d 7 = true → Own (b 6) [.int .i64 px, .int .i64 py, .int .i64 pz] w) ∧ (d 7 = true → d 6 = true) ∧ (d 8 = true → s 10 = .int .i64 0)) rfl ?h0U3 (?stU3 : StepsF _ _ _ _ 9 _ _ [0, 1, 2, 3, 4, 5, 6, 7, 8]) ?dnU3
  case h0U3 => exact ⟨Below.drew (Below.refl _ _), (fun h => nomatch h), (fun h => nomatch h), (fun h => nomatch h), (fun h => nomatch h), (fun h => nomatch h), (fun h => nomatch h), (fun h => nomatch h), (fun h => nomatch h), (fun h => nomatch h), (fun h => nomatch h), (fun h => nomatch h)⟩
  case stU3 =>
    refine StepsF.cons (o := _) rfl (ws := []) (by kernel_rfl) (by decide) (fun d s b w hF hd hw K hK => ?_) ?_
    · have hB : Below U1.heap.size U1 w := (hF.out.1)
      dsimp only
      go_simp
      go_at_call 15
      refine (k3.out _).mono ?_
      rintro e w1 ⟨rfl, hb⟩
      exact hK.out (ups s 54 ((.agg #[.int .i64 4294967296, .int .i64 0, .int .i64 0, .int .i64 0, .int .i64 4294967296, .int .i64 0, .int .i64 0, .int .i64 0, .int .i64 4294967296, .int .i64 0, .int .i64 0, .int .i64 0]))) b _ ⟨(Below.go hB hb), (fun _ => rfl), (hF.out.2.2.1), (hF.out.2.2.2.1), (hF.out.2.2.2.2.1), (hF.out.2.2.2.2.2.1), (hF.out.2.2.2.2.2.2.1), (hF.out.2.2.2.2.2.2.2.1), (fun h0 h1 => ((hF.out.2.2.2.2.2.2.2.2.1) h0 h1).later hb), (fun h0 => ((hF.out.2.2.2.2.2.2.2.2.2.1) h0).later hb), (hF.out.2.2.2.2.2.2.2.2.2.2.1), (hF.out.2.2.2.2.2.2.2.2.2.2.2)⟩
    refine StepsF.cons (o := _) rfl (ws := []) (by kernel_rfl) (by decide) (fun d s b w hF hd hw K hK => ?_) ?_
    · have hB : Below U1.heap.size U1 w := (hF.out.1)
      dsimp only
      have op := HP.out.later hB
      have p0 := op.at 0 _ rfl
      have p1 := op.at 1 _ rfl
      have p2 := op.at 2 _ rfl
      clear op
      go_simp
      exact hK.out (ups s 55 ((.agg #[.int .i64 px, .int .i64 py, .int .i64 pz]))) b _ ⟨hB, (hF.out.2.1), (fun _ => rfl), (hF.out.2.2.2.1), (hF.out.2.2.2.2.1), (hF.out.2.2.2.2.2.1), (hF.out.2.2.2.2.2.2.1), (hF.out.2.2.2.2.2.2.2.1), (hF.out.2.2.2.2.2.2.2.2.1), (hF.out.2.2.2.2.2.2.2.2.2.1), (hF.out.2.2.2.2.2.2.2.2.2.2.1), (hF.out.2.2.2.2.2.2.2.2.2.2.2)⟩
    refine StepsF.cons (o := _) rfl (ws := [0, 1, 0]) (by kernel_rfl) (by decide) (fun d s b w hF hd hw K hK => ?_) ?_
    · have hB : Below U1.heap.size U1 w := (hF.out.1)
      have e0 : s 54 = (.agg #[.int .i64 4294967296, .int .i64 0, .int .i64 0, .int .i64 0, .int .i64 4294967296, .int .i64 0, .int .i64 0, .int .i64 0, .int .i64 4294967296, .int .i64 0, .int .i64 0, .int .i64 0]) := (hF.out.2.1) (hw 0 (by decide))
      have e1 : s 55 = (.agg #[.int .i64 px, .int .i64 py, .int .i64 pz]) := (hF.out.2.2.1) (hw 1 (by decide))
      dsimp only
      go_simp
      go_at_call 32
      refine (k4.out _).mono ?_
      rintro e w1 ⟨rfl, hb⟩
      exact hK.out (ups (ups (ups s 54 ((.agg #[.int .i64 4294967296, .int .i64 0, .int .i64 0, .int .i64 0, .int .i64 4294967296, .int .i64 0, .int .i64 0, .int .i64 0, .int .i64 4294967296, .int .i64 0, .int .i64 0, .int .i64 0]))) 55 ((.agg #[.int .i64 px, .int .i64 py, .int .i64 pz]))) 56 (.tuple #[(.agg #[.int .i64 px, .int .i64 py, .int .i64 pz]), .int .i64 0])) b _ ⟨(Below.go hB hb), (fun _ => rfl), (fun _ => rfl), (fun _ => rfl), (hF.out.2.2.2.2.1), (hF.out.2.2.2.2.2.1), (hF.out.2.2.2.2.2.2.1), (hF.out.2.2.2.2.2.2.2.1), (fun h0 h1 => ((hF.out.2.2.2.2.2.2.2.2.1) h0 h1).later hb), (fun h0 => ((hF.out.2.2.2.2.2.2.2.2.2.1) h0).later hb), (hF.out.2.2.2.2.2.2.2.2.2.2.1), (hF.out.2.2.2.2.2.2.2.2.2.2.2)⟩
    refine StepsF.cons (o := _) rfl (ws := [2]) (by kernel_rfl) (by decide) (fun d s b w hF hd hw K hK => ?_) ?_
    · have hB : Below U1.heap.size U1 w := (hF.out.1)
      have e2 : s 56 = .tuple #[(.agg #[.int .i64 px, .int .i64 py, .int .i64 pz]), .int .i64 0] := (hF.out.2.2.2.1) (hw 2 (by decide))
      dsimp only
      go_simp
      exact hK.out (ups (ups s 56 (.tuple #[(.agg #[.int .i64 px, .int .i64 py, .int .i64 pz]), .int .i64 0])) 53 (.tuple #[(.agg #[.int .i64 px, .int .i64 py, .int .i64 pz]), .int .i64 0])) b _ ⟨hB, (hF.out.2.1), (hF.out.2.2.1), (fun _ => rfl), (fun _ => rfl), (hF.out.2.2.2.2.2.1), (hF.out.2.2.2.2.2.2.1), (hF.out.2.2.2.2.2.2.2.1), (hF.out.2.2.2.2.2.2.2.2.1), (hF.out.2.2.2.2.2.2.2.2.2.1), (hF.out.2.2.2.2.2.2.2.2.2.2.1), (hF.out.2.2.2.2.2.2.2.2.2.2.2)⟩
    refine StepsF.cons (o := _) rfl (ws := [3]) (by kernel_rfl) (by decide) (fun d s b w hF hd hw K hK => ?_) ?_
    · have hB : Below U1.heap.size U1 w := (hF.out.1)
      have e3 : s 53 = .tuple #[(.agg #[.int .i64 px, .int .i64 py, .int .i64 pz]), .int .i64 0] := (hF.out.2.2.2.2.1) (hw 3 (by decide))
      dsimp only
      go_simp
      exact hK.out (ups (ups s 53 (.tuple #[(.agg #[.int .i64 px, .int .i64 py, .int .i64 pz]), .int .i64 0])) 57 ((.agg #[.int .i64 px, .int .i64 py, .int .i64 pz]))) b _ ⟨hB, (hF.out.2.1), (hF.out.2.2.1), (hF.out.2.2.2.1), (fun _ => rfl), (fun _ => rfl), (hF.out.2.2.2.2.2.2.1), (hF.out.2.2.2.2.2.2.2.1), (hF.out.2.2.2.2.2.2.2.2.1), (hF.out.2.2.2.2.2.2.2.2.2.1), (hF.out.2.2.2.2.2.2.2.2.2.2.1), (hF.out.2.2.2.2.2.2.2.2.2.2.2)⟩
    refine StepsF.cons (o := _) rfl (ws := [3]) (by kernel_rfl) (by decide) (fun d s b w hF hd hw K hK => ?_) ?_
    · have hB : Below U1.heap.size U1 w := (hF.out.1)
      have e3 : s 53 = .tuple #[(.agg #[.int .i64 px, .int .i64 py, .int .i64 pz]), .int .i64 0] := (hF.out.2.2.2.2.1) (hw 3 (by decide))
      dsimp only
      go_simp
      exact hK.out (ups (ups s 53 (.tuple #[(.agg #[.int .i64 px, .int .i64 py, .int .i64 pz]), .int .i64 0])) 58 (.int .i64 0)) b _ ⟨hB, (hF.out.2.1), (hF.out.2.2.1), (hF.out.2.2.2.1), (fun _ => rfl), (hF.out.2.2.2.2.2.1), (fun _ => rfl), (hF.out.2.2.2.2.2.2.2.1), (hF.out.2.2.2.2.2.2.2.2.1), (hF.out.2.2.2.2.2.2.2.2.2.1), (hF.out.2.2.2.2.2.2.2.2.2.2.1), (hF.out.2.2.2.2.2.2.2.2.2.2.2)⟩
    refine StepsF.cons (o := _) rfl (ws := []) (by kernel_rfl) (by decide) (fun d s b w hF hd hw K hK => ?_) ?_
    · have hB : Below U1.heap.size U1 w := (hF.out.1)
      dsimp only
      go_simp
      exact hK.out (ups s 9 (.pointer (some ⟨w.heap.size, 0, none⟩))) (ups b 6 w.heap.size) _ ⟨(hB.alloc hB.size _), (hF.out.2.1), (hF.out.2.2.1), (hF.out.2.2.2.1), (hF.out.2.2.2.2.1), (hF.out.2.2.2.2.2.1), (hF.out.2.2.2.2.2.2.1), (fun _ => ⟨rfl, hB.size⟩), (fun _ _ => Own.newAt rfl), (fun h => absurd ((hF.out.2.2.2.2.2.2.2.2.2.2.1) h) (by simp [hd])), (fun _ => rfl), (hF.out.2.2.2.2.2.2.2.2.2.2.2)⟩
    refine StepsF.cons (o := _) rfl (ws := [6, 4, 2, 0, 1, 2, 3, 4, 6]) (by kernel_rfl) (by decide) (fun d s b w hF hd hw K hK => ?_) ?_
    · have hB : Below U1.heap.size U1 w := (hF.out.1)
      have e0 : s 54 = (.agg #[.int .i64 4294967296, .int .i64 0, .int .i64 0, .int .i64 0, .int .i64 4294967296, .int .i64 0, .int .i64 0, .int .i64 0, .int .i64 4294967296, .int .i64 0, .int .i64 0, .int .i64 0]) := (hF.out.2.1) (hw 0 (by decide))
      have e1 : s 55 = (.agg #[.int .i64 px, .int .i64 py, .int .i64 pz]) := (hF.out.2.2.1) (hw 1 (by decide))
      have e2 : s 56 = .tuple #[(.agg #[.int .i64 px, .int .i64 py, .int .i64 pz]), .int .i64 0] := (hF.out.2.2.2.1) (hw 2 (by decide))
      have e3 : s 53 = .tuple #[(.agg #[.int .i64 px, .int .i64 py, .int .i64 pz]), .int .i64 0] := (hF.out.2.2.2.2.1) (hw 3 (by decide))
      have e4 : s 57 = (.agg #[.int .i64 px, .int .i64 py, .int .i64 pz]) := (hF.out.2.2.2.2.2.1) (hw 4 (by decide))
      have e6 : s 9 = .pointer (some ⟨(b 6), 0, none⟩) := ((hF.out.2.2.2.2.2.2.2.1) (hw 6 (by decide))).1
      have le6 : U1.heap.size ≤ b 6 := ((hF.out.2.2.2.2.2.2.2.1) (hw 6 (by decide))).2
      dsimp only
      have o6 := (hF.out.2.2.2.2.2.2.2.2.1) (hw 6 (by decide)) hd
      have fr0 := o6.ok 0 (by simp)
      have fr1 := o6.ok 1 (by simp)
      have fr2 := o6.ok 2 (by simp)
      have ce0 := o6.at 0 _ rfl
      have ce1 := o6.at 1 _ rfl
      have ce2 := o6.at 2 _ rfl
      go_simp
      exact hK.out (ups (ups (ups (ups (ups (ups s 54 ((.agg #[.int .i64 4294967296, .int .i64 0, .int .i64 0, .int .i64 0, .int .i64 4294967296, .int .i64 0, .int .i64 0, .int .i64 0, .int .i64 4294967296, .int .i64 0, .int .i64 0, .int .i64 0]))) 55 ((.agg #[.int .i64 px, .int .i64 py, .int .i64 pz]))) 56 (.tuple #[(.agg #[.int .i64 px, .int .i64 py, .int .i64 pz]), .int .i64 0])) 53 (.tuple #[(.agg #[.int .i64 px, .int .i64 py, .int .i64 pz]), .int .i64 0])) 57 ((.agg #[.int .i64 px, .int .i64 py, .int .i64 pz]))) 9 (.pointer (some ⟨(b 6), 0, none⟩))) b _ ⟨(Below.setCells hB le6 [.int .i64 px, .int .i64 py, .int .i64 pz] 0), (fun _ => rfl), (fun _ => rfl), (fun _ => rfl), (fun _ => rfl), (fun _ => rfl), (hF.out.2.2.2.2.2.2.1), (fun _ => ⟨rfl, le6⟩), (fun _ h => nomatch h), (fun _ => Own.store (vs := [.int .i64 px, .int .i64 py, .int .i64 pz]) o6 rfl), (fun _ => hw 6 (by decide)), (hF.out.2.2.2.2.2.2.2.2.2.2.2)⟩
    refine StepsF.cons (o := _) rfl (ws := [5, 7, 0, 1, 2, 3, 4, 5, 6, 7]) (by kernel_rfl) (by decide) (fun d s b w hF hd hw K hK => ?_) ?_
    · have hB : Below U1.heap.size U1 w := (hF.out.1)
      have e0 : s 54 = (.agg #[.int .i64 4294967296, .int .i64 0, .int .i64 0, .int .i64 0, .int .i64 4294967296, .int .i64 0, .int .i64 0, .int .i64 0, .int .i64 4294967296, .int .i64 0, .int .i64 0, .int .i64 0]) := (hF.out.2.1) (hw 0 (by decide))
      have e1 : s 55 = (.agg #[.int .i64 px, .int .i64 py, .int .i64 pz]) := (hF.out.2.2.1) (hw 1 (by decide))
      have e2 : s 56 = .tuple #[(.agg #[.int .i64 px, .int .i64 py, .int .i64 pz]), .int .i64 0] := (hF.out.2.2.2.1) (hw 2 (by decide))
      have e3 : s 53 = .tuple #[(.agg #[.int .i64 px, .int .i64 py, .int .i64 pz]), .int .i64 0] := (hF.out.2.2.2.2.1) (hw 3 (by decide))
      have e4 : s 57 = (.agg #[.int .i64 px, .int .i64 py, .int .i64 pz]) := (hF.out.2.2.2.2.2.1) (hw 4 (by decide))
      have e5 : s 58 = .int .i64 0 := (hF.out.2.2.2.2.2.2.1) (hw 5 (by decide))
      have e6 : s 9 = .pointer (some ⟨(b 6), 0, none⟩) := ((hF.out.2.2.2.2.2.2.2.1) (hw 6 (by decide))).1
      have le6 : U1.heap.size ≤ b 6 := ((hF.out.2.2.2.2.2.2.2.1) (hw 6 (by decide))).2
      dsimp only
      go_simp
      exact hK.out (ups (ups (ups (ups (ups (ups (ups (ups s 54 ((.agg #[.int .i64 4294967296, .int .i64 0, .int .i64 0, .int .i64 0, .int .i64 4294967296, .int .i64 0, .int .i64 0, .int .i64 0, .int .i64 4294967296, .int .i64 0, .int .i64 0, .int .i64 0]))) 55 ((.agg #[.int .i64 px, .int .i64 py, .int .i64 pz]))) 56 (.tuple #[(.agg #[.int .i64 px, .int .i64 py, .int .i64 pz]), .int .i64 0])) 53 (.tuple #[(.agg #[.int .i64 px, .int .i64 py, .int .i64 pz]), .int .i64 0])) 57 ((.agg #[.int .i64 px, .int .i64 py, .int .i64 pz]))) 58 (.int .i64 0)) 9 (.pointer (some ⟨(b 6), 0, none⟩))) 10 (.int .i64 0)) b _ ⟨hB, (fun _ => rfl), (fun _ => rfl), (fun _ => rfl), (fun _ => rfl), (fun _ => rfl), (fun _ => rfl), (fun _ => ⟨rfl, le6⟩), (hF.out.2.2.2.2.2.2.2.2.1), (hF.out.2.2.2.2.2.2.2.2.2.1), (hF.out.2.2.2.2.2.2.2.2.2.2.1), (fun _ => rfl)⟩
    exact StepsF.nil
  intro d s b U3 hF hall
  replace hF := Lib.hid hF
  have hB : Below U1.heap.size U1 U3 := (hF.out.1)
  try dsimp only
  have e0 : s 54 = (.agg #[.int .i64 4294967296, .int .i64 0, .int .i64 0, .int .i64 0, .int .i64 4294967296, .int .i64 0, .int .i64 0, .int .i64 0, .int .i64 4294967296, .int .i64 0, .int .i64 0, .int .i64 0]) := (hF.out.2.1) (hall 0 (by decide))
  have e1 : s 55 = (.agg #[.int .i64 px, .int .i64 py, .int .i64 pz]) := (hF.out.2.2.1) (hall 1 (by decide))
  have e2 : s 56 = .tuple #[(.agg #[.int .i64 px, .int .i64 py, .int .i64 pz]), .int .i64 0] := (hF.out.2.2.2.1) (hall 2 (by decide))
  have e3 : s 53 = .tuple #[(.agg #[.int .i64 px, .int .i64 py, .int .i64 pz]), .int .i64 0] := (hF.out.2.2.2.2.1) (hall 3 (by decide))
  have e4 : s 57 = (.agg #[.int .i64 px, .int .i64 py, .int .i64 pz]) := (hF.out.2.2.2.2.2.1) (hall 4 (by decide))
  have e5 : s 58 = .int .i64 0 := (hF.out.2.2.2.2.2.2.1) (hall 5 (by decide))
  have e6 : s 9 = .pointer (some ⟨(b 6), 0, none⟩) := ((hF.out.2.2.2.2.2.2.2.1) (hall 6 (by decide))).1
  have le6 : U1.heap.size ≤ b 6 := ((hF.out.2.2.2.2.2.2.2.1) (hall 6 (by decide))).2
  have f7 := (hF.out.2.2.2.2.2.2.2.2.2.1) (hall 7 (by decide))
  have e8 : s 10 = .int .i64 0 := (hF.out.2.2.2.2.2.2.2.2.2.2.2) (hall 8 (by decide))
  rw [e0, e1, e2, e3, e4, e5, e6, e8]
  clear hall hF e0 e1 e2 e3 e4 e5 e6 e8
  obtain ⟨N2, hz⟩ : ∃ x, x = b 6 := ⟨_, rfl⟩
  rw [← hz] at le6 f7 ⊢
  clear hz
  clear d s b
  replace HP := Lib.hid (HP.out.later hB)
  have hB3 : Below w.heap.size w U3 := Below.go hB2 hB
  have HN2 := Lib.hid f7
  clear hB2 hB k3 k4 f7
  have e1 : decide (mx3 px py pz ≤ 65536) = true := by have := hon.out; have h := mx3_gt px py pz 65536; simp; omega
  have e2 : decide (-65536 ≤ mn3 px py pz) = true := by have := hon.out; have h := mn3_lt px py pz (-65536); simp; omega
  clear hon
  have oP := HP.out
  have P0 := oP.at 0 _ rfl
  have P1 := oP.at 1 _ rfl
  have P2 := oP.at 2 _ rfl
  have Pl := oP.lt
  clear oP
  have oN2 := HN2.out
  have N20 := oN2.at 0 _ rfl
  have N21 := oN2.at 1 _ rfl
  have N22 := oN2.at 2 _ rfl
  have N2l := oN2.lt
  clear oN2
  clear HP HN2
  go_wp2_with (go_at_call 23; refine (k6.out _).mono ?_; rintro e w7 ⟨rfl, hb⟩)
  go_ret
  exact ⟨rfl, Below.go hB3 hb⟩

set_option maxHeartbeats 8000000 in
theorem Grid_an (a : Aff) (px py pz X Y Z ox oy oz : Int) (hq : Hid (-65536 ≤ X ∧ X ≤ 65536 ∧ -65536 ≤ Y ∧ Y ≤ 65536 ∧ -65536 ≤ Z ∧ Z ≤ 65536)) (hon : Hid (¬ (-65536 ≤ px ∧ px ≤ 65536 ∧ -65536 ≤ py ∧ py ≤ 65536 ∧ -65536 ≤ pz ∧ pz ≤ 65536))) (w : World)
    (k0 : Hid (∀ w, Calls Try.prog 32 #[(.agg #[.int .i64 a.m0, .int .i64 a.m1, .int .i64 a.m2, .int .i64 a.m3, .int .i64 a.m4, .int .i64 a.m5, .int .i64 a.m6, .int .i64 a.m7, .int .i64 a.m8, .int .i64 a.tx, .int .i64 a.ty, .int .i64 a.tz]), (.agg #[.int .i64 px, .int .i64 py, .int .i64 pz])] w fun e w' => e = .returned (.tuple #[(.agg #[.int .i64 X, .int .i64 Y, .int .i64 Z]), .int .i64 0]) ∧ Below w.heap.size w w'))
    (k1 : Hid (∀ w, Calls Try.prog 38 #[(.agg #[.int .i64 X, .int .i64 Y, .int .i64 Z])] w fun e w' => e = .returned (.agg #[.int .i64 ox, .int .i64 oy, .int .i64 oz]) ∧ Below w.heap.size w w'))
    (k2 : Hid (∀ w, Calls Try.prog 34 #[(.agg #[.int .i64 ox, .int .i64 oy, .int .i64 oz])] w fun e w' => e = .returned (.tuple #[(.agg #[.int .i64 X, .int .i64 Y, .int .i64 Z]), .int .i64 0]) ∧ Below w.heap.size w w'))
    (k3 : Hid (∀ w, Calls Try.prog 15 #[] w fun e w' => e = .returned (.agg #[.int .i64 4294967296, .int .i64 0, .int .i64 0, .int .i64 0, .int .i64 4294967296, .int .i64 0, .int .i64 0, .int .i64 0, .int .i64 4294967296, .int .i64 0, .int .i64 0, .int .i64 0]) ∧ Below w.heap.size w w'))
    (k4 : Hid (∀ w, Calls Try.prog 32 #[(.agg #[.int .i64 4294967296, .int .i64 0, .int .i64 0, .int .i64 0, .int .i64 4294967296, .int .i64 0, .int .i64 0, .int .i64 0, .int .i64 4294967296, .int .i64 0, .int .i64 0, .int .i64 0]), (.agg #[.int .i64 px, .int .i64 py, .int .i64 pz])] w fun e w' => e = .returned (.tuple #[(.agg #[.int .i64 0, .int .i64 0, .int .i64 0]), .int .i64 8]) ∧ Below w.heap.size w w'))
    (k6 : Hid (∀ w, Calls Try.prog 23 #[] w fun e w' => e = .returned (.bool true) ∧ Below w.heap.size w w')) :
    Calls Try.prog 9 #[(.agg #[.int .i64 a.m0, .int .i64 a.m1, .int .i64 a.m2, .int .i64 a.m3, .int .i64 a.m4, .int .i64 a.m5, .int .i64 a.m6, .int .i64 a.m7, .int .i64 a.m8, .int .i64 a.tx, .int .i64 a.ty, .int .i64 a.tz]), (.agg #[.int .i64 px, .int .i64 py, .int .i64 pz])] w fun e w' => e = .returned (.bool true) ∧ Below w.heap.size w w' := by
  go_enter Try.func9, Try.ntmps9
  go_upto_region 1 with fail
  obtain ⟨W0, hW⟩ : ∃ W0, W0 = ((w.alloc (.cells #[.int .i64 a.m0, .int .i64 a.m1, .int .i64 a.m2, .int .i64 a.m3, .int .i64 a.m4, .int .i64 a.m5, .int .i64 a.m6, .int .i64 a.m7, .int .i64 a.m8, .int .i64 a.tx, .int .i64 a.ty, .int .i64 a.tz] 29)).alloc (.cells #[.int .i64 px, .int .i64 py, .int .i64 pz] 48)) := ⟨_, rfl⟩
  have hB0 : Below w.heap.size w W0 := hW ▸ (Below.al (Below.al (Below.refl _ _)))
  have HA : Hid (Own w.heap.size [.int .i64 a.m0, .int .i64 a.m1, .int .i64 a.m2, .int .i64 a.m3, .int .i64 a.m4, .int .i64 a.m5, .int .i64 a.m6, .int .i64 a.m7, .int .i64 a.m8, .int .i64 a.tx, .int .i64 a.ty, .int .i64 a.tz] W0) := Lib.hid (hW ▸ (Own.newAt (by simp)).alloc)
  have HP : Hid (Own (w.heap.size + 1) [.int .i64 px, .int .i64 py, .int .i64 pz] W0) := Lib.hid (hW ▸ (Own.newAt (by simp)))
  rw [← hW]
  clear hW
  obtain ⟨P, eP⟩ : ∃ X, X = (w.heap.size + 1) := ⟨_, rfl⟩
  rw [← eP] at HP ⊢
  have Pw : w.heap.size ≤ P := by omega
  obtain ⟨A, eA⟩ : ∃ X, X = w.heap.size := ⟨_, rfl⟩
  rw [← eA] at HA ⊢
  have Aw : w.heap.size ≤ A := by omega
  have nAP : A ≠ P := by omega
  have nPA : P ≠ A := by omega
  clear eA eP
  have oA := HA.out
  have A0 := oA.at 0 _ rfl
  have A1 := oA.at 1 _ rfl
  have A2 := oA.at 2 _ rfl
  have A3 := oA.at 3 _ rfl
  have A4 := oA.at 4 _ rfl
  have A5 := oA.at 5 _ rfl
  have A6 := oA.at 6 _ rfl
  have A7 := oA.at 7 _ rfl
  have A8 := oA.at 8 _ rfl
  have A9 := oA.at 9 _ rfl
  have A10 := oA.at 10 _ rfl
  have A11 := oA.at 11 _ rfl
  have Al := oA.lt
  clear oA
  have oP := HP.out
  have P0 := oP.at 0 _ rfl
  have P1 := oP.at 1 _ rfl
  have P2 := oP.at 2 _ rfl
  have Pl := oP.lt
  clear oP
  go_upto_region 2 with (go_at_call 32; refine (k0.out _).mono ?_; rintro e y0 ⟨rfl, hb⟩)
  replace HP := Lib.hid (HP.out.later hb)
  have gB : Below w.heap.size w y0 := Below.go hB0 hb
  clear hb hB0 HA k0 A0 A1 A2 A3 A4 A5 A6 A7 A8 A9 A10 A11 Al P0 P1 P2 Pl
  obtain ⟨U0, hW⟩ : ∃ U0, U0 = (y0.alloc (.cells #[.int .i64 X, .int .i64 Y, .int .i64 Z] 48)) := ⟨_, rfl⟩
  have hq0 : Below y0.heap.size y0 U0 := hW ▸ (Below.al (Below.refl _ _))
  have HN0 : Hid (Own y0.heap.size [.int .i64 X, .int .i64 Y, .int .i64 Z] U0) := Lib.hid (hW ▸ (Own.newAt (by simp)))
  rw [← hW]
  clear hW
  obtain ⟨N0, eN0⟩ : ∃ X, X = y0.heap.size := ⟨_, rfl⟩
  rw [← eN0] at HN0 ⊢
  have N0w : y0.heap.size ≤ N0 := by omega
  clear eN0
  replace HP := Lib.hid (HP.out.later hq0)
  have hB1 : Below w.heap.size w U0 := Below.go gB hq0
  clear hq0 gB N0w
  have oN0 := HN0.out
  have N00 := oN0.at 0 _ rfl
  have N01 := oN0.at 1 _ rfl
  have N02 := oN0.at 2 _ rfl
  have N0l := oN0.lt
  clear oN0
  go_upto_region 4 with (first | (go_at_call 38; refine (k1.out _).mono ?_; rintro e y1 ⟨rfl, hb1⟩) | (go_at_call 34; refine (k2.out _).mono ?_; rintro e y2 ⟨rfl, hb2⟩))
  have hb : Below U0.heap.size U0 y2 := Below.go hb1 hb2
  replace HP := Lib.hid (HP.out.later hb); replace HN0 := Lib.hid (HN0.out.later hb)
  have gB : Below w.heap.size w y2 := Below.go hB1 hb
  clear hb hb1 hb2 hB1 k1 k2 N00 N01 N02 N0l
  obtain ⟨U1, hW⟩ : ∃ U1, U1 = (y2.alloc (.cells #[.int .i64 X, .int .i64 Y, .int .i64 Z] 48)) := ⟨_, rfl⟩
  have hq0 : Below y2.heap.size y2 U1 := hW ▸ (Below.al (Below.refl _ _))
  have HN1 : Hid (Own y2.heap.size [.int .i64 X, .int .i64 Y, .int .i64 Z] U1) := Lib.hid (hW ▸ (Own.newAt (by simp)))
  rw [← hW]
  clear hW
  obtain ⟨N1, eN1⟩ : ∃ X, X = y2.heap.size := ⟨_, rfl⟩
  rw [← eN1] at HN1 ⊢
  have N1w : y2.heap.size ≤ N1 := by omega
  clear eN1
  replace HP := Lib.hid (HP.out.later hq0); replace HN0 := Lib.hid (HN0.out.later hq0)
  have hB2 : Below w.heap.size w U1 := Below.go gB hq0
  clear hq0 gB N1w
  have e1 : decide (65536 < mx3 X Y Z) = false := by have := hq.out; simp [mx3_gt]; omega
  have e2 : decide (mn3 X Y Z < -65536) = false := by have := hq.out; simp [mn3_lt]; omega
  have oN0 := HN0.out
  have N00 := oN0.at 0 _ rfl
  have N01 := oN0.at 1 _ rfl
  have N02 := oN0.at 2 _ rfl
  have N0l := oN0.lt
  clear oN0
  have oN1 := HN1.out
  have N10 := oN1.at 0 _ rfl
  have N11 := oN1.at 1 _ rfl
  have N12 := oN1.at 2 _ rfl
  have N1l := oN1.lt
  clear oN1
  go_wp2_with (fail)
  clear N00 N01 N02 N0l N10 N11 N12 N1l e1 e2 HN0 HN1 hq
  refine wp_region_fun 9 (by kernel_rfl) (by kernel_rfl) rfl (fun s b => ⟨#[(.agg #[.int .i64 a.m0, .int .i64 a.m1, .int .i64 a.m2, .int .i64 a.m3, .int .i64 a.m4, .int .i64 a.m5, .int .i64 a.m6, .int .i64 a.m7, .int .i64 a.m8, .int .i64 a.tx, .int .i64 a.ty, .int .i64 a.tz]), (.agg #[.int .i64 px, .int .i64 py, .int .i64 pz]), .pointer (some ⟨A, 0, none⟩), .pointer (some ⟨P, 0, none⟩), .bool false, .pointer (some ⟨N0, 0, none⟩), .int .i64 0, .pointer (some ⟨N1, 0, none⟩), .int .i64 0, s 9, s 10, undef, .tuple #[(.agg #[.int .i64 X, .int .i64 Y, .int .i64 Z]), .int .i64 0], (.agg #[.int .i64 a.m0, .int .i64 a.m1, .int .i64 a.m2, .int .i64 a.m3, .int .i64 a.m4, .int .i64 a.m5, .int .i64 a.m6, .int .i64 a.m7, .int .i64 a.m8, .int .i64 a.tx, .int .i64 a.ty, .int .i64 a.tz]), (.agg #[.int .i64 px, .int .i64 py, .int .i64 pz]), .tuple #[(.agg #[.int .i64 X, .int .i64 Y, .int .i64 Z]), .int .i64 0], (.agg #[.int .i64 X, .int .i64 Y, .int .i64 Z]), .int .i64 0, .int .i64 0, .bool true, .tuple #[(.agg #[.int .i64 X, .int .i64 Y, .int .i64 Z]), .int .i64 0], (.agg #[.int .i64 X, .int .i64 Y, .int .i64 Z]), (.agg #[.int .i64 ox, .int .i64 oy, .int .i64 oz]), .tuple #[(.agg #[.int .i64 X, .int .i64 Y, .int .i64 Z]), .int .i64 0], (.agg #[.int .i64 X, .int .i64 Y, .int .i64 Z]), .int .i64 0, .int .i64 0, .bool false, .bool false, (.agg #[.int .i64 X, .int .i64 Y, .int .i64 Z]), (.agg #[.int .i64 X, .int .i64 Y, .int .i64 Z]), .bool false, .bool false, .bool false, .pointer (some ⟨N0, 0, none⟩), .int .i64 X, .pointer (some ⟨N0, 1, none⟩), .int .i64 Y, .pointer (some ⟨N0, 2, none⟩), .int .i64 Z, .int .i64 (mx3 X Y Z), .bool false, .bool false, .bool false, .pointer (some ⟨N0, 0, none⟩), .int .i64 X, .pointer (some ⟨N0, 1, none⟩), .int .i64 Y, .pointer (some ⟨N0, 2, none⟩), .int .i64 Z, .int .i64 (mn3 X Y Z), .bool false, .bool false, s 53, s 54, s 55, s 56, s 57, s 58, undef, undef, undef, undef, undef, undef, undef, undef, undef, undef, undef, undef, undef, undef, undef, undef, undef, undef, undef, undef, undef, undef, undef, undef, undef, undef, undef, undef, undef, undef, undef, undef, undef, undef], []⟩) (fun d s b w => (Below U1.heap.size U1 w) ∧ (d 0 = true → s 54 = (.agg #[.int .i64 4294967296, .int .i64 0, .int .i64 0, .int .i64 0, .int .i64 4294967296, .int .i64 0, .int .i64 0, .int .i64 0, .int .i64 4294967296, .int .i64 0, .int .i64 0, .int .i64 0])) ∧ (d 1 = true → s 55 = (.agg #[.int .i64 px, .int .i64 py, .int .i64 pz])) ∧ (d 2 = true → s 56 = .tuple #[(.agg #[.int .i64 0, .int .i64 0, .int .i64 0]), .int .i64 8]) ∧ (d 3 = true → s 53 = .tuple #[(.agg #[.int .i64 0, .int .i64 0, .int .i64 0]), .int .i64 8]) ∧ (d 4 = true → s 57 = (.agg #[.int .i64 0, .int .i64 0, .int .i64 0])) ∧ (d 5 = true → s 58 = .int .i64 8) ∧ (d 6 = true → s 9 = .pointer (some ⟨(b 6), 0, none⟩) ∧ U1.heap.size ≤ b 6) ∧ (d 6 = true → d 7 = false → Own (b 6) [.int .i64 0, .int .i64 0, .int .i64 0] w) ∧ (d 7 = true → Own (b 6) [.int .i64 0, .int .i64 0, .int .i64 0] w) ∧ (d 7 = true → d 6 = true) ∧ (d 8 = true → s 10 = .int .i64 8)) rfl ?h0U3 (?stU3 : StepsF _ _ _ _ 9 _ _ [0, 1, 2, 3, 4, 5, 6, 7, 8]) ?dnU3
  case h0U3 => exact ⟨Below.drew (Below.refl _ _), (fun h => nomatch h), (fun h => nomatch h), (fun h => nomatch h), (fun h => nomatch h), (fun h => nomatch h), (fun h => nomatch h), (fun h => nomatch h), (fun h => nomatch h), (fun h => nomatch h), (fun h => nomatch h), (fun h => nomatch h)⟩
  case stU3 =>
    refine StepsF.cons (o := _) rfl (ws := []) (by kernel_rfl) (by decide) (fun d s b w hF hd hw K hK => ?_) ?_
    · have hB : Below U1.heap.size U1 w := (hF.out.1)
      dsimp only
      go_simp
      go_at_call 15
      refine (k3.out _).mono ?_
      rintro e w1 ⟨rfl, hb⟩
      exact hK.out (ups s 54 ((.agg #[.int .i64 4294967296, .int .i64 0, .int .i64 0, .int .i64 0, .int .i64 4294967296, .int .i64 0, .int .i64 0, .int .i64 0, .int .i64 4294967296, .int .i64 0, .int .i64 0, .int .i64 0]))) b _ ⟨(Below.go hB hb), (fun _ => rfl), (hF.out.2.2.1), (hF.out.2.2.2.1), (hF.out.2.2.2.2.1), (hF.out.2.2.2.2.2.1), (hF.out.2.2.2.2.2.2.1), (hF.out.2.2.2.2.2.2.2.1), (fun h0 h1 => ((hF.out.2.2.2.2.2.2.2.2.1) h0 h1).later hb), (fun h0 => ((hF.out.2.2.2.2.2.2.2.2.2.1) h0).later hb), (hF.out.2.2.2.2.2.2.2.2.2.2.1), (hF.out.2.2.2.2.2.2.2.2.2.2.2)⟩
    refine StepsF.cons (o := _) rfl (ws := []) (by kernel_rfl) (by decide) (fun d s b w hF hd hw K hK => ?_) ?_
    · have hB : Below U1.heap.size U1 w := (hF.out.1)
      dsimp only
      have op := HP.out.later hB
      have p0 := op.at 0 _ rfl
      have p1 := op.at 1 _ rfl
      have p2 := op.at 2 _ rfl
      clear op
      go_simp
      exact hK.out (ups s 55 ((.agg #[.int .i64 px, .int .i64 py, .int .i64 pz]))) b _ ⟨hB, (hF.out.2.1), (fun _ => rfl), (hF.out.2.2.2.1), (hF.out.2.2.2.2.1), (hF.out.2.2.2.2.2.1), (hF.out.2.2.2.2.2.2.1), (hF.out.2.2.2.2.2.2.2.1), (hF.out.2.2.2.2.2.2.2.2.1), (hF.out.2.2.2.2.2.2.2.2.2.1), (hF.out.2.2.2.2.2.2.2.2.2.2.1), (hF.out.2.2.2.2.2.2.2.2.2.2.2)⟩
    refine StepsF.cons (o := _) rfl (ws := [0, 1, 0]) (by kernel_rfl) (by decide) (fun d s b w hF hd hw K hK => ?_) ?_
    · have hB : Below U1.heap.size U1 w := (hF.out.1)
      have e0 : s 54 = (.agg #[.int .i64 4294967296, .int .i64 0, .int .i64 0, .int .i64 0, .int .i64 4294967296, .int .i64 0, .int .i64 0, .int .i64 0, .int .i64 4294967296, .int .i64 0, .int .i64 0, .int .i64 0]) := (hF.out.2.1) (hw 0 (by decide))
      have e1 : s 55 = (.agg #[.int .i64 px, .int .i64 py, .int .i64 pz]) := (hF.out.2.2.1) (hw 1 (by decide))
      dsimp only
      go_simp
      go_at_call 32
      refine (k4.out _).mono ?_
      rintro e w1 ⟨rfl, hb⟩
      exact hK.out (ups (ups (ups s 54 ((.agg #[.int .i64 4294967296, .int .i64 0, .int .i64 0, .int .i64 0, .int .i64 4294967296, .int .i64 0, .int .i64 0, .int .i64 0, .int .i64 4294967296, .int .i64 0, .int .i64 0, .int .i64 0]))) 55 ((.agg #[.int .i64 px, .int .i64 py, .int .i64 pz]))) 56 (.tuple #[(.agg #[.int .i64 0, .int .i64 0, .int .i64 0]), .int .i64 8])) b _ ⟨(Below.go hB hb), (fun _ => rfl), (fun _ => rfl), (fun _ => rfl), (hF.out.2.2.2.2.1), (hF.out.2.2.2.2.2.1), (hF.out.2.2.2.2.2.2.1), (hF.out.2.2.2.2.2.2.2.1), (fun h0 h1 => ((hF.out.2.2.2.2.2.2.2.2.1) h0 h1).later hb), (fun h0 => ((hF.out.2.2.2.2.2.2.2.2.2.1) h0).later hb), (hF.out.2.2.2.2.2.2.2.2.2.2.1), (hF.out.2.2.2.2.2.2.2.2.2.2.2)⟩
    refine StepsF.cons (o := _) rfl (ws := [2]) (by kernel_rfl) (by decide) (fun d s b w hF hd hw K hK => ?_) ?_
    · have hB : Below U1.heap.size U1 w := (hF.out.1)
      have e2 : s 56 = .tuple #[(.agg #[.int .i64 0, .int .i64 0, .int .i64 0]), .int .i64 8] := (hF.out.2.2.2.1) (hw 2 (by decide))
      dsimp only
      go_simp
      exact hK.out (ups (ups s 56 (.tuple #[(.agg #[.int .i64 0, .int .i64 0, .int .i64 0]), .int .i64 8])) 53 (.tuple #[(.agg #[.int .i64 0, .int .i64 0, .int .i64 0]), .int .i64 8])) b _ ⟨hB, (hF.out.2.1), (hF.out.2.2.1), (fun _ => rfl), (fun _ => rfl), (hF.out.2.2.2.2.2.1), (hF.out.2.2.2.2.2.2.1), (hF.out.2.2.2.2.2.2.2.1), (hF.out.2.2.2.2.2.2.2.2.1), (hF.out.2.2.2.2.2.2.2.2.2.1), (hF.out.2.2.2.2.2.2.2.2.2.2.1), (hF.out.2.2.2.2.2.2.2.2.2.2.2)⟩
    refine StepsF.cons (o := _) rfl (ws := [3]) (by kernel_rfl) (by decide) (fun d s b w hF hd hw K hK => ?_) ?_
    · have hB : Below U1.heap.size U1 w := (hF.out.1)
      have e3 : s 53 = .tuple #[(.agg #[.int .i64 0, .int .i64 0, .int .i64 0]), .int .i64 8] := (hF.out.2.2.2.2.1) (hw 3 (by decide))
      dsimp only
      go_simp
      exact hK.out (ups (ups s 53 (.tuple #[(.agg #[.int .i64 0, .int .i64 0, .int .i64 0]), .int .i64 8])) 57 ((.agg #[.int .i64 0, .int .i64 0, .int .i64 0]))) b _ ⟨hB, (hF.out.2.1), (hF.out.2.2.1), (hF.out.2.2.2.1), (fun _ => rfl), (fun _ => rfl), (hF.out.2.2.2.2.2.2.1), (hF.out.2.2.2.2.2.2.2.1), (hF.out.2.2.2.2.2.2.2.2.1), (hF.out.2.2.2.2.2.2.2.2.2.1), (hF.out.2.2.2.2.2.2.2.2.2.2.1), (hF.out.2.2.2.2.2.2.2.2.2.2.2)⟩
    refine StepsF.cons (o := _) rfl (ws := [3]) (by kernel_rfl) (by decide) (fun d s b w hF hd hw K hK => ?_) ?_
    · have hB : Below U1.heap.size U1 w := (hF.out.1)
      have e3 : s 53 = .tuple #[(.agg #[.int .i64 0, .int .i64 0, .int .i64 0]), .int .i64 8] := (hF.out.2.2.2.2.1) (hw 3 (by decide))
      dsimp only
      go_simp
      exact hK.out (ups (ups s 53 (.tuple #[(.agg #[.int .i64 0, .int .i64 0, .int .i64 0]), .int .i64 8])) 58 (.int .i64 8)) b _ ⟨hB, (hF.out.2.1), (hF.out.2.2.1), (hF.out.2.2.2.1), (fun _ => rfl), (hF.out.2.2.2.2.2.1), (fun _ => rfl), (hF.out.2.2.2.2.2.2.2.1), (hF.out.2.2.2.2.2.2.2.2.1), (hF.out.2.2.2.2.2.2.2.2.2.1), (hF.out.2.2.2.2.2.2.2.2.2.2.1), (hF.out.2.2.2.2.2.2.2.2.2.2.2)⟩
    refine StepsF.cons (o := _) rfl (ws := []) (by kernel_rfl) (by decide) (fun d s b w hF hd hw K hK => ?_) ?_
    · have hB : Below U1.heap.size U1 w := (hF.out.1)
      dsimp only
      go_simp
      exact hK.out (ups s 9 (.pointer (some ⟨w.heap.size, 0, none⟩))) (ups b 6 w.heap.size) _ ⟨(hB.alloc hB.size _), (hF.out.2.1), (hF.out.2.2.1), (hF.out.2.2.2.1), (hF.out.2.2.2.2.1), (hF.out.2.2.2.2.2.1), (hF.out.2.2.2.2.2.2.1), (fun _ => ⟨rfl, hB.size⟩), (fun _ _ => Own.newAt rfl), (fun h => absurd ((hF.out.2.2.2.2.2.2.2.2.2.2.1) h) (by simp [hd])), (fun _ => rfl), (hF.out.2.2.2.2.2.2.2.2.2.2.2)⟩
    refine StepsF.cons (o := _) rfl (ws := [6, 4, 2, 0, 1, 2, 3, 4, 6]) (by kernel_rfl) (by decide) (fun d s b w hF hd hw K hK => ?_) ?_
    · have hB : Below U1.heap.size U1 w := (hF.out.1)
      have e0 : s 54 = (.agg #[.int .i64 4294967296, .int .i64 0, .int .i64 0, .int .i64 0, .int .i64 4294967296, .int .i64 0, .int .i64 0, .int .i64 0, .int .i64 4294967296, .int .i64 0, .int .i64 0, .int .i64 0]) := (hF.out.2.1) (hw 0 (by decide))
      have e1 : s 55 = (.agg #[.int .i64 px, .int .i64 py, .int .i64 pz]) := (hF.out.2.2.1) (hw 1 (by decide))
      have e2 : s 56 = .tuple #[(.agg #[.int .i64 0, .int .i64 0, .int .i64 0]), .int .i64 8] := (hF.out.2.2.2.1) (hw 2 (by decide))
      have e3 : s 53 = .tuple #[(.agg #[.int .i64 0, .int .i64 0, .int .i64 0]), .int .i64 8] := (hF.out.2.2.2.2.1) (hw 3 (by decide))
      have e4 : s 57 = (.agg #[.int .i64 0, .int .i64 0, .int .i64 0]) := (hF.out.2.2.2.2.2.1) (hw 4 (by decide))
      have e6 : s 9 = .pointer (some ⟨(b 6), 0, none⟩) := ((hF.out.2.2.2.2.2.2.2.1) (hw 6 (by decide))).1
      have le6 : U1.heap.size ≤ b 6 := ((hF.out.2.2.2.2.2.2.2.1) (hw 6 (by decide))).2
      dsimp only
      have o6 := (hF.out.2.2.2.2.2.2.2.2.1) (hw 6 (by decide)) hd
      have fr0 := o6.ok 0 (by simp)
      have fr1 := o6.ok 1 (by simp)
      have fr2 := o6.ok 2 (by simp)
      have ce0 := o6.at 0 _ rfl
      have ce1 := o6.at 1 _ rfl
      have ce2 := o6.at 2 _ rfl
      go_simp
      exact hK.out (ups (ups (ups (ups (ups (ups s 54 ((.agg #[.int .i64 4294967296, .int .i64 0, .int .i64 0, .int .i64 0, .int .i64 4294967296, .int .i64 0, .int .i64 0, .int .i64 0, .int .i64 4294967296, .int .i64 0, .int .i64 0, .int .i64 0]))) 55 ((.agg #[.int .i64 px, .int .i64 py, .int .i64 pz]))) 56 (.tuple #[(.agg #[.int .i64 0, .int .i64 0, .int .i64 0]), .int .i64 8])) 53 (.tuple #[(.agg #[.int .i64 0, .int .i64 0, .int .i64 0]), .int .i64 8])) 57 ((.agg #[.int .i64 0, .int .i64 0, .int .i64 0]))) 9 (.pointer (some ⟨(b 6), 0, none⟩))) b _ ⟨(Below.setCells hB le6 [.int .i64 0, .int .i64 0, .int .i64 0] 0), (fun _ => rfl), (fun _ => rfl), (fun _ => rfl), (fun _ => rfl), (fun _ => rfl), (hF.out.2.2.2.2.2.2.1), (fun _ => ⟨rfl, le6⟩), (fun _ h => nomatch h), (fun _ => Own.store (vs := [.int .i64 0, .int .i64 0, .int .i64 0]) o6 rfl), (fun _ => hw 6 (by decide)), (hF.out.2.2.2.2.2.2.2.2.2.2.2)⟩
    refine StepsF.cons (o := _) rfl (ws := [5, 7, 0, 1, 2, 3, 4, 5, 6, 7]) (by kernel_rfl) (by decide) (fun d s b w hF hd hw K hK => ?_) ?_
    · have hB : Below U1.heap.size U1 w := (hF.out.1)
      have e0 : s 54 = (.agg #[.int .i64 4294967296, .int .i64 0, .int .i64 0, .int .i64 0, .int .i64 4294967296, .int .i64 0, .int .i64 0, .int .i64 0, .int .i64 4294967296, .int .i64 0, .int .i64 0, .int .i64 0]) := (hF.out.2.1) (hw 0 (by decide))
      have e1 : s 55 = (.agg #[.int .i64 px, .int .i64 py, .int .i64 pz]) := (hF.out.2.2.1) (hw 1 (by decide))
      have e2 : s 56 = .tuple #[(.agg #[.int .i64 0, .int .i64 0, .int .i64 0]), .int .i64 8] := (hF.out.2.2.2.1) (hw 2 (by decide))
      have e3 : s 53 = .tuple #[(.agg #[.int .i64 0, .int .i64 0, .int .i64 0]), .int .i64 8] := (hF.out.2.2.2.2.1) (hw 3 (by decide))
      have e4 : s 57 = (.agg #[.int .i64 0, .int .i64 0, .int .i64 0]) := (hF.out.2.2.2.2.2.1) (hw 4 (by decide))
      have e5 : s 58 = .int .i64 8 := (hF.out.2.2.2.2.2.2.1) (hw 5 (by decide))
      have e6 : s 9 = .pointer (some ⟨(b 6), 0, none⟩) := ((hF.out.2.2.2.2.2.2.2.1) (hw 6 (by decide))).1
      have le6 : U1.heap.size ≤ b 6 := ((hF.out.2.2.2.2.2.2.2.1) (hw 6 (by decide))).2
      dsimp only
      go_simp
      exact hK.out (ups (ups (ups (ups (ups (ups (ups (ups s 54 ((.agg #[.int .i64 4294967296, .int .i64 0, .int .i64 0, .int .i64 0, .int .i64 4294967296, .int .i64 0, .int .i64 0, .int .i64 0, .int .i64 4294967296, .int .i64 0, .int .i64 0, .int .i64 0]))) 55 ((.agg #[.int .i64 px, .int .i64 py, .int .i64 pz]))) 56 (.tuple #[(.agg #[.int .i64 0, .int .i64 0, .int .i64 0]), .int .i64 8])) 53 (.tuple #[(.agg #[.int .i64 0, .int .i64 0, .int .i64 0]), .int .i64 8])) 57 ((.agg #[.int .i64 0, .int .i64 0, .int .i64 0]))) 58 (.int .i64 8)) 9 (.pointer (some ⟨(b 6), 0, none⟩))) 10 (.int .i64 8)) b _ ⟨hB, (fun _ => rfl), (fun _ => rfl), (fun _ => rfl), (fun _ => rfl), (fun _ => rfl), (fun _ => rfl), (fun _ => ⟨rfl, le6⟩), (hF.out.2.2.2.2.2.2.2.2.1), (hF.out.2.2.2.2.2.2.2.2.2.1), (hF.out.2.2.2.2.2.2.2.2.2.2.1), (fun _ => rfl)⟩
    exact StepsF.nil
  intro d s b U3 hF hall
  replace hF := Lib.hid hF
  have hB : Below U1.heap.size U1 U3 := (hF.out.1)
  try dsimp only
  have e0 : s 54 = (.agg #[.int .i64 4294967296, .int .i64 0, .int .i64 0, .int .i64 0, .int .i64 4294967296, .int .i64 0, .int .i64 0, .int .i64 0, .int .i64 4294967296, .int .i64 0, .int .i64 0, .int .i64 0]) := (hF.out.2.1) (hall 0 (by decide))
  have e1 : s 55 = (.agg #[.int .i64 px, .int .i64 py, .int .i64 pz]) := (hF.out.2.2.1) (hall 1 (by decide))
  have e2 : s 56 = .tuple #[(.agg #[.int .i64 0, .int .i64 0, .int .i64 0]), .int .i64 8] := (hF.out.2.2.2.1) (hall 2 (by decide))
  have e3 : s 53 = .tuple #[(.agg #[.int .i64 0, .int .i64 0, .int .i64 0]), .int .i64 8] := (hF.out.2.2.2.2.1) (hall 3 (by decide))
  have e4 : s 57 = (.agg #[.int .i64 0, .int .i64 0, .int .i64 0]) := (hF.out.2.2.2.2.2.1) (hall 4 (by decide))
  have e5 : s 58 = .int .i64 8 := (hF.out.2.2.2.2.2.2.1) (hall 5 (by decide))
  have e6 : s 9 = .pointer (some ⟨(b 6), 0, none⟩) := ((hF.out.2.2.2.2.2.2.2.1) (hall 6 (by decide))).1
  have le6 : U1.heap.size ≤ b 6 := ((hF.out.2.2.2.2.2.2.2.1) (hall 6 (by decide))).2
  have f7 := (hF.out.2.2.2.2.2.2.2.2.2.1) (hall 7 (by decide))
  have e8 : s 10 = .int .i64 8 := (hF.out.2.2.2.2.2.2.2.2.2.2.2) (hall 8 (by decide))
  rw [e0, e1, e2, e3, e4, e5, e6, e8]
  clear hall hF e0 e1 e2 e3 e4 e5 e6 e8
  obtain ⟨N2, hz⟩ : ∃ x, x = b 6 := ⟨_, rfl⟩
  rw [← hz] at le6 f7 ⊢
  clear hz
  clear d s b
  replace HP := Lib.hid (HP.out.later hB)
  have hB3 : Below w.heap.size w U3 := Below.go hB2 hB
  have HN2 := Lib.hid f7
  clear hB2 hB k3 k4 f7
  have oP := HP.out
  have P0 := oP.at 0 _ rfl
  have P1 := oP.at 1 _ rfl
  have P2 := oP.at 2 _ rfl
  have Pl := oP.lt
  clear oP
  have oN2 := HN2.out
  have N20 := oN2.at 0 _ rfl
  have N21 := oN2.at 1 _ rfl
  have N22 := oN2.at 2 _ rfl
  have N2l := oN2.lt
  clear oN2
  clear HP HN2
  have hmx := mx3_gt px py pz 65536
  have hmn := mn3_lt px py pz (-65536)
  have ho := hon.out
  by_cases h1 : mx3 px py pz ≤ 65536
  · have e1 : decide (mx3 px py pz ≤ 65536) = true := by simpa using h1
    have e2 : decide (-65536 ≤ mn3 px py pz) = false := by simp; omega
    clear hmx hmn ho h1 hon
    go_wp2_with (go_at_call 23; refine (k6.out _).mono ?_; rintro e w7 ⟨rfl, hb⟩)
    go_ret
    exact ⟨rfl, Below.go hB3 hb⟩
  · have e1 : decide (mx3 px py pz ≤ 65536) = false := by simpa using h1
    clear hmx hmn ho h1 hon
    go_wp2_with (go_at_call 23; refine (k6.out _).mono ?_; rintro e w7 ⟨rfl, hb⟩)
    go_ret
    exact ⟨rfl, Below.go hB3 hb⟩

set_option maxHeartbeats 8000000 in
theorem Grid_by (a : Aff) (px py pz X Y Z c : Int) (hc : (c == 0) = false) (hon : Hid ((-65536 ≤ px ∧ px ≤ 65536 ∧ -65536 ≤ py ∧ py ≤ 65536 ∧ -65536 ≤ pz ∧ pz ≤ 65536))) (w : World)
    (k0 : Hid (∀ w, Calls Try.prog 32 #[(.agg #[.int .i64 a.m0, .int .i64 a.m1, .int .i64 a.m2, .int .i64 a.m3, .int .i64 a.m4, .int .i64 a.m5, .int .i64 a.m6, .int .i64 a.m7, .int .i64 a.m8, .int .i64 a.tx, .int .i64 a.ty, .int .i64 a.tz]), (.agg #[.int .i64 px, .int .i64 py, .int .i64 pz])] w fun e w' => e = .returned (.tuple #[(.agg #[.int .i64 X, .int .i64 Y, .int .i64 Z]), .int .i64 c]) ∧ Below w.heap.size w w'))
    (k3 : Hid (∀ w, Calls Try.prog 15 #[] w fun e w' => e = .returned (.agg #[.int .i64 4294967296, .int .i64 0, .int .i64 0, .int .i64 0, .int .i64 4294967296, .int .i64 0, .int .i64 0, .int .i64 0, .int .i64 4294967296, .int .i64 0, .int .i64 0, .int .i64 0]) ∧ Below w.heap.size w w'))
    (k4 : Hid (∀ w, Calls Try.prog 32 #[(.agg #[.int .i64 4294967296, .int .i64 0, .int .i64 0, .int .i64 0, .int .i64 4294967296, .int .i64 0, .int .i64 0, .int .i64 0, .int .i64 4294967296, .int .i64 0, .int .i64 0, .int .i64 0]), (.agg #[.int .i64 px, .int .i64 py, .int .i64 pz])] w fun e w' => e = .returned (.tuple #[(.agg #[.int .i64 px, .int .i64 py, .int .i64 pz]), .int .i64 0]) ∧ Below w.heap.size w w'))
    (k6 : Hid (∀ w, Calls Try.prog 23 #[] w fun e w' => e = .returned (.bool true) ∧ Below w.heap.size w w')) :
    Calls Try.prog 9 #[(.agg #[.int .i64 a.m0, .int .i64 a.m1, .int .i64 a.m2, .int .i64 a.m3, .int .i64 a.m4, .int .i64 a.m5, .int .i64 a.m6, .int .i64 a.m7, .int .i64 a.m8, .int .i64 a.tx, .int .i64 a.ty, .int .i64 a.tz]), (.agg #[.int .i64 px, .int .i64 py, .int .i64 pz])] w fun e w' => e = .returned (.bool true) ∧ Below w.heap.size w w' := by
  go_enter Try.func9, Try.ntmps9
  go_upto_region 1 with fail
  obtain ⟨W0, hW⟩ : ∃ W0, W0 = ((w.alloc (.cells #[.int .i64 a.m0, .int .i64 a.m1, .int .i64 a.m2, .int .i64 a.m3, .int .i64 a.m4, .int .i64 a.m5, .int .i64 a.m6, .int .i64 a.m7, .int .i64 a.m8, .int .i64 a.tx, .int .i64 a.ty, .int .i64 a.tz] 29)).alloc (.cells #[.int .i64 px, .int .i64 py, .int .i64 pz] 48)) := ⟨_, rfl⟩
  have hB0 : Below w.heap.size w W0 := hW ▸ (Below.al (Below.al (Below.refl _ _)))
  have HA : Hid (Own w.heap.size [.int .i64 a.m0, .int .i64 a.m1, .int .i64 a.m2, .int .i64 a.m3, .int .i64 a.m4, .int .i64 a.m5, .int .i64 a.m6, .int .i64 a.m7, .int .i64 a.m8, .int .i64 a.tx, .int .i64 a.ty, .int .i64 a.tz] W0) := Lib.hid (hW ▸ (Own.newAt (by simp)).alloc)
  have HP : Hid (Own (w.heap.size + 1) [.int .i64 px, .int .i64 py, .int .i64 pz] W0) := Lib.hid (hW ▸ (Own.newAt (by simp)))
  rw [← hW]
  clear hW
  obtain ⟨P, eP⟩ : ∃ X, X = (w.heap.size + 1) := ⟨_, rfl⟩
  rw [← eP] at HP ⊢
  have Pw : w.heap.size ≤ P := by omega
  obtain ⟨A, eA⟩ : ∃ X, X = w.heap.size := ⟨_, rfl⟩
  rw [← eA] at HA ⊢
  have Aw : w.heap.size ≤ A := by omega
  have nAP : A ≠ P := by omega
  have nPA : P ≠ A := by omega
  clear eA eP
  have oA := HA.out
  have A0 := oA.at 0 _ rfl
  have A1 := oA.at 1 _ rfl
  have A2 := oA.at 2 _ rfl
  have A3 := oA.at 3 _ rfl
  have A4 := oA.at 4 _ rfl
  have A5 := oA.at 5 _ rfl
  have A6 := oA.at 6 _ rfl
  have A7 := oA.at 7 _ rfl
  have A8 := oA.at 8 _ rfl
  have A9 := oA.at 9 _ rfl
  have A10 := oA.at 10 _ rfl
  have A11 := oA.at 11 _ rfl
  have Al := oA.lt
  clear oA
  have oP := HP.out
  have P0 := oP.at 0 _ rfl
  have P1 := oP.at 1 _ rfl
  have P2 := oP.at 2 _ rfl
  have Pl := oP.lt
  clear oP
  go_upto_region 2 with (go_at_call 32; refine (k0.out _).mono ?_; rintro e y0 ⟨rfl, hb⟩)
  replace HP := Lib.hid (HP.out.later hb)
  have gB : Below w.heap.size w y0 := Below.go hB0 hb
  clear hb hB0 HA k0 A0 A1 A2 A3 A4 A5 A6 A7 A8 A9 A10 A11 Al P0 P1 P2 Pl
  obtain ⟨U0, hW⟩ : ∃ U0, U0 = (y0.alloc (.cells #[.int .i64 X, .int .i64 Y, .int .i64 Z] 48)) := ⟨_, rfl⟩
  have hq0 : Below y0.heap.size y0 U0 := hW ▸ (Below.al (Below.refl _ _))
  have HN0 : Hid (Own y0.heap.size [.int .i64 X, .int .i64 Y, .int .i64 Z] U0) := Lib.hid (hW ▸ (Own.newAt (by simp)))
  rw [← hW]
  clear hW
  obtain ⟨N0, eN0⟩ : ∃ X, X = y0.heap.size := ⟨_, rfl⟩
  rw [← eN0] at HN0 ⊢
  have N0w : y0.heap.size ≤ N0 := by omega
  clear eN0
  replace HP := Lib.hid (HP.out.later hq0)
  have hB1 : Below w.heap.size w U0 := Below.go gB hq0
  clear hq0 gB N0w
  go_wp2_with (fail)
  clear HN0
  refine wp_region_fun 9 (by kernel_rfl) (by kernel_rfl) rfl (fun s b => ⟨#[(.agg #[.int .i64 a.m0, .int .i64 a.m1, .int .i64 a.m2, .int .i64 a.m3, .int .i64 a.m4, .int .i64 a.m5, .int .i64 a.m6, .int .i64 a.m7, .int .i64 a.m8, .int .i64 a.tx, .int .i64 a.ty, .int .i64 a.tz]), (.agg #[.int .i64 px, .int .i64 py, .int .i64 pz]), .pointer (some ⟨A, 0, none⟩), .pointer (some ⟨P, 0, none⟩), .bool false, .pointer (some ⟨N0, 0, none⟩), .int .i64 c, undef, undef, s 9, s 10, undef, .tuple #[(.agg #[.int .i64 X, .int .i64 Y, .int .i64 Z]), .int .i64 c], (.agg #[.int .i64 a.m0, .int .i64 a.m1, .int .i64 a.m2, .int .i64 a.m3, .int .i64 a.m4, .int .i64 a.m5, .int .i64 a.m6, .int .i64 a.m7, .int .i64 a.m8, .int .i64 a.tx, .int .i64 a.ty, .int .i64 a.tz]), (.agg #[.int .i64 px, .int .i64 py, .int .i64 pz]), .tuple #[(.agg #[.int .i64 X, .int .i64 Y, .int .i64 Z]), .int .i64 c], (.agg #[.int .i64 X, .int .i64 Y, .int .i64 Z]), .int .i64 c, .int .i64 c, .bool false, undef, undef, undef, undef, undef, undef, undef, undef, undef, undef, undef, undef, undef, undef, undef, undef, undef, undef, undef, undef, undef, undef, undef, undef, undef, undef, undef, undef, undef, undef, undef, undef, undef, s 53, s 54, s 55, s 56, s 57, s 58, undef, undef, undef, undef, undef, undef, undef, undef, undef, undef, undef, undef, undef, undef, undef, undef, undef, undef, undef, undef, undef, undef, undef, undef, undef, undef, undef, undef, undef, undef, undef, undef, undef, undef], []⟩) (fun d s b w => (Below U0.heap.size U0 w) ∧ (d 0 = true → s 54 = (.agg #[.int .i64 4294967296, .int .i64 0, .int .i64 0, .int .i64 0, .int .i64 4294967296, .int .i64 0, .int .i64 0, .int .i64 0, .int .i64 4294967296, .int .i64 0, .int .i64 0, .int .i64 0])) ∧ (d 1 = true → s 55 = (.agg #[.int .i64 px, .int .i64 py, .int .i64 pz])) ∧ (d 2 = true → s 56 = .tuple #[(.agg #[.int .i64 px, .int .i64 py, .int .i64 pz]), .int .i64 0]) ∧ (d 3 = true → s 53 = .tuple #[(.agg #[.int .i64 px, .int .i64 py, .int .i64 pz]), .int .i64 0]) ∧ (d 4 = true → s 57 = (.agg #[.int .i64 px, .int .i64 py, .int .i64 pz])) ∧ (d 5 = true → s 58 = .int .i64 0) ∧ (d 6 = true → s 9 = .pointer (some ⟨(b 6), 0, none⟩) ∧ U0.heap.size ≤ b 6) ∧ (d 6 = true → d 7 = false → Own (b 6) [.int .i64 0, .int .i64 0, .int .i64 0] w) ∧ (d 7 = true → Own (b 6) [.int .i64 px, .int .i64 py, .int .i64 pz] w) ∧ (d 7 = true → d 6 = true) ∧ (d 8 = true → s 10 = .int .i64 0)) rfl ?h0U3 (?stU3 : StepsF _ _ _ _ 9 _ _ [0, 1, 2, 3, 4, 5, 6, 7, 8]) ?dnU3
  case h0U3 => exact ⟨Below.drew (Below.refl _ _), (fun h => nomatch h), (fun h => nomatch h), (fun h => nomatch h), (fun h => nomatch h), (fun h => nomatch h), (fun h => nomatch h), (fun h => nomatch h), (fun h => nomatch h), (fun h => nomatch h), (fun h => nomatch h), (fun h => nomatch h)⟩
  case stU3 =>
    refine StepsF.cons (o := _) rfl (ws := []) (by kernel_rfl) (by decide) (fun d s b w hF hd hw K hK => ?_) ?_
    · have hB : Below U0.heap.size U0 w := (hF.out.1)
      dsimp only
      go_simp
      go_at_call 15
      refine (k3.out _).mono ?_
      rintro e w1 ⟨rfl, hb⟩
      exact hK.out (ups s 54 ((.agg #[.int .i64 4294967296, .int .i64 0, .int .i64 0, .int .i64 0, .int .i64 4294967296, .int .i64 0, .int .i64 0, .int .i64 0, .int .i64 4294967296, .int .i64 0, .int .i64 0, .int .i64 0]))) b _ ⟨(Below.go hB hb), (fun _ => rfl), (hF.out.2.2.1), (hF.out.2.2.2.1), (hF.out.2.2.2.2.1), (hF.out.2.2.2.2.2.1), (hF.out.2.2.2.2.2.2.1), (hF.out.2.2.2.2.2.2.2.1), (fun h0 h1 => ((hF.out.2.2.2.2.2.2.2.2.1) h0 h1).later hb), (fun h0 => ((hF.out.2.2.2.2.2.2.2.2.2.1) h0).later hb), (hF.out.2.2.2.2.2.2.2.2.2.2.1), (hF.out.2.2.2.2.2.2.2.2.2.2.2)⟩
    refine StepsF.cons (o := _) rfl (ws := []) (by kernel_rfl) (by decide) (fun d s b w hF hd hw K hK => ?_) ?_
    · have hB : Below U0.heap.size U0 w := (hF.out.1)
      dsimp only
      have op := HP.out.later hB
      have p0 := op.at 0 _ rfl
      have p1 := op.at 1 _ rfl
      have p2 := op.at 2 _ rfl
      clear op
      go_simp
      exact hK.out (ups s 55 ((.agg #[.int .i64 px, .int .i64 py, .int .i64 pz]))) b _ ⟨hB, (hF.out.2.1), (fun _ => rfl), (hF.out.2.2.2.1), (hF.out.2.2.2.2.1), (hF.out.2.2.2.2.2.1), (hF.out.2.2.2.2.2.2.1), (hF.out.2.2.2.2.2.2.2.1), (hF.out.2.2.2.2.2.2.2.2.1), (hF.out.2.2.2.2.2.2.2.2.2.1), (hF.out.2.2.2.2.2.2.2.2.2.2.1), (hF.out.2.2.2.2.2.2.2.2.2.2.2)⟩
    refine StepsF.cons (o := _) rfl (ws := [0, 1, 0]) (by kernel_rfl) (by decide) (fun d s b w hF hd hw K hK => ?_) ?_
    · have hB : Below U0.heap.size U0 w := (hF.out.1)
      have e0 : s 54 = (.agg #[.int .i64 4294967296, .int .i64 0, .int .i64 0, .int .i64 0, .int .i64 4294967296, .int .i64 0, .int .i64 0, .int .i64 0, .int .i64 4294967296, .int .i64 0, .int .i64 0, .int .i64 0]) := (hF.out.2.1) (hw 0 (by decide))
      have e1 : s 55 = (.agg #[.int .i64 px, .int .i64 py, .int .i64 pz]) := (hF.out.2.2.1) (hw 1 (by decide))
      dsimp only
      go_simp
      go_at_call 32
      refine (k4.out _).mono ?_
      rintro e w1 ⟨rfl, hb⟩
      exact hK.out (ups (ups (ups s 54 ((.agg #[.int .i64 4294967296, .int .i64 0, .int .i64 0, .int .i64 0, .int .i64 4294967296, .int .i64 0, .int .i64 0, .int .i64 0, .int .i64 4294967296, .int .i64 0, .int .i64 0, .int .i64 0]))) 55 ((.agg #[.int .i64 px, .int .i64 py, .int .i64 pz]))) 56 (.tuple #[(.agg #[.int .i64 px, .int .i64 py, .int .i64 pz]), .int .i64 0])) b _ ⟨(Below.go hB hb), (fun _ => rfl), (fun _ => rfl), (fun _ => rfl), (hF.out.2.2.2.2.1), (hF.out.2.2.2.2.2.1), (hF.out.2.2.2.2.2.2.1), (hF.out.2.2.2.2.2.2.2.1), (fun h0 h1 => ((hF.out.2.2.2.2.2.2.2.2.1) h0 h1).later hb), (fun h0 => ((hF.out.2.2.2.2.2.2.2.2.2.1) h0).later hb), (hF.out.2.2.2.2.2.2.2.2.2.2.1), (hF.out.2.2.2.2.2.2.2.2.2.2.2)⟩
    refine StepsF.cons (o := _) rfl (ws := [2]) (by kernel_rfl) (by decide) (fun d s b w hF hd hw K hK => ?_) ?_
    · have hB : Below U0.heap.size U0 w := (hF.out.1)
      have e2 : s 56 = .tuple #[(.agg #[.int .i64 px, .int .i64 py, .int .i64 pz]), .int .i64 0] := (hF.out.2.2.2.1) (hw 2 (by decide))
      dsimp only
      go_simp
      exact hK.out (ups (ups s 56 (.tuple #[(.agg #[.int .i64 px, .int .i64 py, .int .i64 pz]), .int .i64 0])) 53 (.tuple #[(.agg #[.int .i64 px, .int .i64 py, .int .i64 pz]), .int .i64 0])) b _ ⟨hB, (hF.out.2.1), (hF.out.2.2.1), (fun _ => rfl), (fun _ => rfl), (hF.out.2.2.2.2.2.1), (hF.out.2.2.2.2.2.2.1), (hF.out.2.2.2.2.2.2.2.1), (hF.out.2.2.2.2.2.2.2.2.1), (hF.out.2.2.2.2.2.2.2.2.2.1), (hF.out.2.2.2.2.2.2.2.2.2.2.1), (hF.out.2.2.2.2.2.2.2.2.2.2.2)⟩
    refine StepsF.cons (o := _) rfl (ws := [3]) (by kernel_rfl) (by decide) (fun d s b w hF hd hw K hK => ?_) ?_
    · have hB : Below U0.heap.size U0 w := (hF.out.1)
      have e3 : s 53 = .tuple #[(.agg #[.int .i64 px, .int .i64 py, .int .i64 pz]), .int .i64 0] := (hF.out.2.2.2.2.1) (hw 3 (by decide))
      dsimp only
      go_simp
      exact hK.out (ups (ups s 53 (.tuple #[(.agg #[.int .i64 px, .int .i64 py, .int .i64 pz]), .int .i64 0])) 57 ((.agg #[.int .i64 px, .int .i64 py, .int .i64 pz]))) b _ ⟨hB, (hF.out.2.1), (hF.out.2.2.1), (hF.out.2.2.2.1), (fun _ => rfl), (fun _ => rfl), (hF.out.2.2.2.2.2.2.1), (hF.out.2.2.2.2.2.2.2.1), (hF.out.2.2.2.2.2.2.2.2.1), (hF.out.2.2.2.2.2.2.2.2.2.1), (hF.out.2.2.2.2.2.2.2.2.2.2.1), (hF.out.2.2.2.2.2.2.2.2.2.2.2)⟩
    refine StepsF.cons (o := _) rfl (ws := [3]) (by kernel_rfl) (by decide) (fun d s b w hF hd hw K hK => ?_) ?_
    · have hB : Below U0.heap.size U0 w := (hF.out.1)
      have e3 : s 53 = .tuple #[(.agg #[.int .i64 px, .int .i64 py, .int .i64 pz]), .int .i64 0] := (hF.out.2.2.2.2.1) (hw 3 (by decide))
      dsimp only
      go_simp
      exact hK.out (ups (ups s 53 (.tuple #[(.agg #[.int .i64 px, .int .i64 py, .int .i64 pz]), .int .i64 0])) 58 (.int .i64 0)) b _ ⟨hB, (hF.out.2.1), (hF.out.2.2.1), (hF.out.2.2.2.1), (fun _ => rfl), (hF.out.2.2.2.2.2.1), (fun _ => rfl), (hF.out.2.2.2.2.2.2.2.1), (hF.out.2.2.2.2.2.2.2.2.1), (hF.out.2.2.2.2.2.2.2.2.2.1), (hF.out.2.2.2.2.2.2.2.2.2.2.1), (hF.out.2.2.2.2.2.2.2.2.2.2.2)⟩
    refine StepsF.cons (o := _) rfl (ws := []) (by kernel_rfl) (by decide) (fun d s b w hF hd hw K hK => ?_) ?_
    · have hB : Below U0.heap.size U0 w := (hF.out.1)
      dsimp only
      go_simp
      exact hK.out (ups s 9 (.pointer (some ⟨w.heap.size, 0, none⟩))) (ups b 6 w.heap.size) _ ⟨(hB.alloc hB.size _), (hF.out.2.1), (hF.out.2.2.1), (hF.out.2.2.2.1), (hF.out.2.2.2.2.1), (hF.out.2.2.2.2.2.1), (hF.out.2.2.2.2.2.2.1), (fun _ => ⟨rfl, hB.size⟩), (fun _ _ => Own.newAt rfl), (fun h => absurd ((hF.out.2.2.2.2.2.2.2.2.2.2.1) h) (by simp [hd])), (fun _ => rfl), (hF.out.2.2.2.2.2.2.2.2.2.2.2)⟩
    refine StepsF.cons (o := _) rfl (ws := [6, 4, 2, 0, 1, 2, 3, 4, 6]) (by kernel_rfl) (by decide) (fun d s b w hF hd hw K hK => ?_) ?_
    · have hB : Below U0.heap.size U0 w := (hF.out.1)
      have e0 : s 54 = (.agg #[.int .i64 4294967296, .int .i64 0, .int .i64 0, .int .i64 0, .int .i64 4294967296, .int .i64 0, .int .i64 0, .int .i64 0, .int .i64 4294967296, .int .i64 0, .int .i64 0, .int .i64 0]) := (hF.out.2.1) (hw 0 (by decide))
      have e1 : s 55 = (.agg #[.int .i64 px, .int .i64 py, .int .i64 pz]) := (hF.out.2.2.1) (hw 1 (by decide))
      have e2 : s 56 = .tuple #[(.agg #[.int .i64 px, .int .i64 py, .int .i64 pz]), .int .i64 0] := (hF.out.2.2.2.1) (hw 2 (by decide))
      have e3 : s 53 = .tuple #[(.agg #[.int .i64 px, .int .i64 py, .int .i64 pz]), .int .i64 0] := (hF.out.2.2.2.2.1) (hw 3 (by decide))
      have e4 : s 57 = (.agg #[.int .i64 px, .int .i64 py, .int .i64 pz]) := (hF.out.2.2.2.2.2.1) (hw 4 (by decide))
      have e6 : s 9 = .pointer (some ⟨(b 6), 0, none⟩) := ((hF.out.2.2.2.2.2.2.2.1) (hw 6 (by decide))).1
      have le6 : U0.heap.size ≤ b 6 := ((hF.out.2.2.2.2.2.2.2.1) (hw 6 (by decide))).2
      dsimp only
      have o6 := (hF.out.2.2.2.2.2.2.2.2.1) (hw 6 (by decide)) hd
      have fr0 := o6.ok 0 (by simp)
      have fr1 := o6.ok 1 (by simp)
      have fr2 := o6.ok 2 (by simp)
      have ce0 := o6.at 0 _ rfl
      have ce1 := o6.at 1 _ rfl
      have ce2 := o6.at 2 _ rfl
      go_simp
      exact hK.out (ups (ups (ups (ups (ups (ups s 54 ((.agg #[.int .i64 4294967296, .int .i64 0, .int .i64 0, .int .i64 0, .int .i64 4294967296, .int .i64 0, .int .i64 0, .int .i64 0, .int .i64 4294967296, .int .i64 0, .int .i64 0, .int .i64 0]))) 55 ((.agg #[.int .i64 px, .int .i64 py, .int .i64 pz]))) 56 (.tuple #[(.agg #[.int .i64 px, .int .i64 py, .int .i64 pz]), .int .i64 0])) 53 (.tuple #[(.agg #[.int .i64 px, .int .i64 py, .int .i64 pz]), .int .i64 0])) 57 ((.agg #[.int .i64 px, .int .i64 py, .int .i64 pz]))) 9 (.pointer (some ⟨(b 6), 0, none⟩))) b _ ⟨(Below.setCells hB le6 [.int .i64 px, .int .i64 py, .int .i64 pz] 0), (fun _ => rfl), (fun _ => rfl), (fun _ => rfl), (fun _ => rfl), (fun _ => rfl), (hF.out.2.2.2.2.2.2.1), (fun _ => ⟨rfl, le6⟩), (fun _ h => nomatch h), (fun _ => Own.store (vs := [.int .i64 px, .int .i64 py, .int .i64 pz]) o6 rfl), (fun _ => hw 6 (by decide)), (hF.out.2.2.2.2.2.2.2.2.2.2.2)⟩
    refine StepsF.cons (o := _) rfl (ws := [5, 7, 0, 1, 2, 3, 4, 5, 6, 7]) (by kernel_rfl) (by decide) (fun d s b w hF hd hw K hK => ?_) ?_
    · have hB : Below U0.heap.size U0 w := (hF.out.1)
      have e0 : s 54 = (.agg #[.int .i64 4294967296, .int .i64 0, .int .i64 0, .int .i64 0, .int .i64 4294967296, .int .i64 0, .int .i64 0, .int .i64 0, .int .i64 4294967296, .int .i64 0, .int .i64 0, .int .i64 0]) := (hF.out.2.1) (hw 0 (by decide))
      have e1 : s 55 = (.agg #[.int .i64 px, .int .i64 py, .int .i64 pz]) := (hF.out.2.2.1) (hw 1 (by decide))
      have e2 : s 56 = .tuple #[(.agg #[.int .i64 px, .int .i64 py, .int .i64 pz]), .int .i64 0] := (hF.out.2.2.2.1) (hw 2 (by decide))
      have e3 : s 53 = .tuple #[(.agg #[.int .i64 px, .int .i64 py, .int .i64 pz]), .int .i64 0] := (hF.out.2.2.2.2.1) (hw 3 (by decide))
      have e4 : s 57 = (.agg #[.int .i64 px, .int .i64 py, .int .i64 pz]) := (hF.out.2.2.2.2.2.1) (hw 4 (by decide))
      have e5 : s 58 = .int .i64 0 := (hF.out.2.2.2.2.2.2.1) (hw 5 (by decide))
      have e6 : s 9 = .pointer (some ⟨(b 6), 0, none⟩) := ((hF.out.2.2.2.2.2.2.2.1) (hw 6 (by decide))).1
      have le6 : U0.heap.size ≤ b 6 := ((hF.out.2.2.2.2.2.2.2.1) (hw 6 (by decide))).2
      dsimp only
      go_simp
      exact hK.out (ups (ups (ups (ups (ups (ups (ups (ups s 54 ((.agg #[.int .i64 4294967296, .int .i64 0, .int .i64 0, .int .i64 0, .int .i64 4294967296, .int .i64 0, .int .i64 0, .int .i64 0, .int .i64 4294967296, .int .i64 0, .int .i64 0, .int .i64 0]))) 55 ((.agg #[.int .i64 px, .int .i64 py, .int .i64 pz]))) 56 (.tuple #[(.agg #[.int .i64 px, .int .i64 py, .int .i64 pz]), .int .i64 0])) 53 (.tuple #[(.agg #[.int .i64 px, .int .i64 py, .int .i64 pz]), .int .i64 0])) 57 ((.agg #[.int .i64 px, .int .i64 py, .int .i64 pz]))) 58 (.int .i64 0)) 9 (.pointer (some ⟨(b 6), 0, none⟩))) 10 (.int .i64 0)) b _ ⟨hB, (fun _ => rfl), (fun _ => rfl), (fun _ => rfl), (fun _ => rfl), (fun _ => rfl), (fun _ => rfl), (fun _ => ⟨rfl, le6⟩), (hF.out.2.2.2.2.2.2.2.2.1), (hF.out.2.2.2.2.2.2.2.2.2.1), (hF.out.2.2.2.2.2.2.2.2.2.2.1), (fun _ => rfl)⟩
    exact StepsF.nil
  intro d s b U3 hF hall
  replace hF := Lib.hid hF
  have hB : Below U0.heap.size U0 U3 := (hF.out.1)
  try dsimp only
  have e0 : s 54 = (.agg #[.int .i64 4294967296, .int .i64 0, .int .i64 0, .int .i64 0, .int .i64 4294967296, .int .i64 0, .int .i64 0, .int .i64 0, .int .i64 4294967296, .int .i64 0, .int .i64 0, .int .i64 0]) := (hF.out.2.1) (hall 0 (by decide))
  have e1 : s 55 = (.agg #[.int .i64 px, .int .i64 py, .int .i64 pz]) := (hF.out.2.2.1) (hall 1 (by decide))
  have e2 : s 56 = .tuple #[(.agg #[.int .i64 px, .int .i64 py, .int .i64 pz]), .int .i64 0] := (hF.out.2.2.2.1) (hall 2 (by decide))
  have e3 : s 53 = .tuple #[(.agg #[.int .i64 px, .int .i64 py, .int .i64 pz]), .int .i64 0] := (hF.out.2.2.2.2.1) (hall 3 (by decide))
  have e4 : s 57 = (.agg #[.int .i64 px, .int .i64 py, .int .i64 pz]) := (hF.out.2.2.2.2.2.1) (hall 4 (by decide))
  have e5 : s 58 = .int .i64 0 := (hF.out.2.2.2.2.2.2.1) (hall 5 (by decide))
  have e6 : s 9 = .pointer (some ⟨(b 6), 0, none⟩) := ((hF.out.2.2.2.2.2.2.2.1) (hall 6 (by decide))).1
  have le6 : U0.heap.size ≤ b 6 := ((hF.out.2.2.2.2.2.2.2.1) (hall 6 (by decide))).2
  have f7 := (hF.out.2.2.2.2.2.2.2.2.2.1) (hall 7 (by decide))
  have e8 : s 10 = .int .i64 0 := (hF.out.2.2.2.2.2.2.2.2.2.2.2) (hall 8 (by decide))
  rw [e0, e1, e2, e3, e4, e5, e6, e8]
  clear hall hF e0 e1 e2 e3 e4 e5 e6 e8
  obtain ⟨N2, hz⟩ : ∃ x, x = b 6 := ⟨_, rfl⟩
  rw [← hz] at le6 f7 ⊢
  clear hz
  clear d s b
  replace HP := Lib.hid (HP.out.later hB)
  have hB3 : Below w.heap.size w U3 := Below.go hB1 hB
  have HN2 := Lib.hid f7
  clear hB1 hB k3 k4 f7
  have e1 : decide (mx3 px py pz ≤ 65536) = true := by have := hon.out; have h := mx3_gt px py pz 65536; simp; omega
  have e2 : decide (-65536 ≤ mn3 px py pz) = true := by have := hon.out; have h := mn3_lt px py pz (-65536); simp; omega
  clear hon
  have oP := HP.out
  have P0 := oP.at 0 _ rfl
  have P1 := oP.at 1 _ rfl
  have P2 := oP.at 2 _ rfl
  have Pl := oP.lt
  clear oP
  have oN2 := HN2.out
  have N20 := oN2.at 0 _ rfl
  have N21 := oN2.at 1 _ rfl
  have N22 := oN2.at 2 _ rfl
  have N2l := oN2.lt
  clear oN2
  clear HP HN2
  go_wp2_with (go_at_call 23; refine (k6.out _).mono ?_; rintro e w7 ⟨rfl, hb⟩)
  go_ret
  exact ⟨rfl, Below.go hB3 hb⟩

set_option maxHeartbeats 8000000 in
theorem Grid_bn (a : Aff) (px py pz X Y Z c : Int) (hc : (c == 0) = false) (hon : Hid (¬ (-65536 ≤ px ∧ px ≤ 65536 ∧ -65536 ≤ py ∧ py ≤ 65536 ∧ -65536 ≤ pz ∧ pz ≤ 65536))) (w : World)
    (k0 : Hid (∀ w, Calls Try.prog 32 #[(.agg #[.int .i64 a.m0, .int .i64 a.m1, .int .i64 a.m2, .int .i64 a.m3, .int .i64 a.m4, .int .i64 a.m5, .int .i64 a.m6, .int .i64 a.m7, .int .i64 a.m8, .int .i64 a.tx, .int .i64 a.ty, .int .i64 a.tz]), (.agg #[.int .i64 px, .int .i64 py, .int .i64 pz])] w fun e w' => e = .returned (.tuple #[(.agg #[.int .i64 X, .int .i64 Y, .int .i64 Z]), .int .i64 c]) ∧ Below w.heap.size w w'))
    (k3 : Hid (∀ w, Calls Try.prog 15 #[] w fun e w' => e = .returned (.agg #[.int .i64 4294967296, .int .i64 0, .int .i64 0, .int .i64 0, .int .i64 4294967296, .int .i64 0, .int .i64 0, .int .i64 0, .int .i64 4294967296, .int .i64 0, .int .i64 0, .int .i64 0]) ∧ Below w.heap.size w w'))
    (k4 : Hid (∀ w, Calls Try.prog 32 #[(.agg #[.int .i64 4294967296, .int .i64 0, .int .i64 0, .int .i64 0, .int .i64 4294967296, .int .i64 0, .int .i64 0, .int .i64 0, .int .i64 4294967296, .int .i64 0, .int .i64 0, .int .i64 0]), (.agg #[.int .i64 px, .int .i64 py, .int .i64 pz])] w fun e w' => e = .returned (.tuple #[(.agg #[.int .i64 0, .int .i64 0, .int .i64 0]), .int .i64 8]) ∧ Below w.heap.size w w'))
    (k6 : Hid (∀ w, Calls Try.prog 23 #[] w fun e w' => e = .returned (.bool true) ∧ Below w.heap.size w w')) :
    Calls Try.prog 9 #[(.agg #[.int .i64 a.m0, .int .i64 a.m1, .int .i64 a.m2, .int .i64 a.m3, .int .i64 a.m4, .int .i64 a.m5, .int .i64 a.m6, .int .i64 a.m7, .int .i64 a.m8, .int .i64 a.tx, .int .i64 a.ty, .int .i64 a.tz]), (.agg #[.int .i64 px, .int .i64 py, .int .i64 pz])] w fun e w' => e = .returned (.bool true) ∧ Below w.heap.size w w' := by
  go_enter Try.func9, Try.ntmps9
  go_upto_region 1 with fail
  obtain ⟨W0, hW⟩ : ∃ W0, W0 = ((w.alloc (.cells #[.int .i64 a.m0, .int .i64 a.m1, .int .i64 a.m2, .int .i64 a.m3, .int .i64 a.m4, .int .i64 a.m5, .int .i64 a.m6, .int .i64 a.m7, .int .i64 a.m8, .int .i64 a.tx, .int .i64 a.ty, .int .i64 a.tz] 29)).alloc (.cells #[.int .i64 px, .int .i64 py, .int .i64 pz] 48)) := ⟨_, rfl⟩
  have hB0 : Below w.heap.size w W0 := hW ▸ (Below.al (Below.al (Below.refl _ _)))
  have HA : Hid (Own w.heap.size [.int .i64 a.m0, .int .i64 a.m1, .int .i64 a.m2, .int .i64 a.m3, .int .i64 a.m4, .int .i64 a.m5, .int .i64 a.m6, .int .i64 a.m7, .int .i64 a.m8, .int .i64 a.tx, .int .i64 a.ty, .int .i64 a.tz] W0) := Lib.hid (hW ▸ (Own.newAt (by simp)).alloc)
  have HP : Hid (Own (w.heap.size + 1) [.int .i64 px, .int .i64 py, .int .i64 pz] W0) := Lib.hid (hW ▸ (Own.newAt (by simp)))
  rw [← hW]
  clear hW
  obtain ⟨P, eP⟩ : ∃ X, X = (w.heap.size + 1) := ⟨_, rfl⟩
  rw [← eP] at HP ⊢
  have Pw : w.heap.size ≤ P := by omega
  obtain ⟨A, eA⟩ : ∃ X, X = w.heap.size := ⟨_, rfl⟩
  rw [← eA] at HA ⊢
  have Aw : w.heap.size ≤ A := by omega
  have nAP : A ≠ P := by omega
  have nPA : P ≠ A := by omega
  clear eA eP
  have oA := HA.out
  have A0 := oA.at 0 _ rfl
  have A1 := oA.at 1 _ rfl
  have A2 := oA.at 2 _ rfl
  have A3 := oA.at 3 _ rfl
  have A4 := oA.at 4 _ rfl
  have A5 := oA.at 5 _ rfl
  have A6 := oA.at 6 _ rfl
  have A7 := oA.at 7 _ rfl
  have A8 := oA.at 8 _ rfl
  have A9 := oA.at 9 _ rfl
  have A10 := oA.at 10 _ rfl
  have A11 := oA.at 11 _ rfl
  have Al := oA.lt
  clear oA
  have oP := HP.out
  have P0 := oP.at 0 _ rfl
  have P1 := oP.at 1 _ rfl
  have P2 := oP.at 2 _ rfl
  have Pl := oP.lt
  clear oP
  go_upto_region 2 with (go_at_call 32; refine (k0.out _).mono ?_; rintro e y0 ⟨rfl, hb⟩)
  replace HP := Lib.hid (HP.out.later hb)
  have gB : Below w.heap.size w y0 := Below.go hB0 hb
  clear hb hB0 HA k0 A0 A1 A2 A3 A4 A5 A6 A7 A8 A9 A10 A11 Al P0 P1 P2 Pl
  obtain ⟨U0, hW⟩ : ∃ U0, U0 = (y0.alloc (.cells #[.int .i64 X, .int .i64 Y, .int .i64 Z] 48)) := ⟨_, rfl⟩
  have hq0 : Below y0.heap.size y0 U0 := hW ▸ (Below.al (Below.refl _ _))
  have HN0 : Hid (Own y0.heap.size [.int .i64 X, .int .i64 Y, .int .i64 Z] U0) := Lib.hid (hW ▸ (Own.newAt (by simp)))
  rw [← hW]
  clear hW
  obtain ⟨N0, eN0⟩ : ∃ X, X = y0.heap.size := ⟨_, rfl⟩
  rw [← eN0] at HN0 ⊢
  have N0w : y0.heap.size ≤ N0 := by omega
  clear eN0
  replace HP := Lib.hid (HP.out.later hq0)
  have hB1 : Below w.heap.size w U0 := Below.go gB hq0
  clear hq0 gB N0w
  go_wp2_with (fail)
  clear HN0
  refine wp_region_fun 9 (by kernel_rfl) (by kernel_rfl) rfl (fun s b => ⟨#[(.agg #[.int .i64 a.m0, .int .i64 a.m1, .int .i64 a.m2, .int .i64 a.m3, .int .i64 a.m4, .int .i64 a.m5, .int .i64 a.m6, .int .i64 a.m7, .int .i64 a.m8, .int .i64 a.tx, .int .i64 a.ty, .int .i64 a.tz]), (.agg #[.int .i64 px, .int .i64 py, .int .i64 pz]), .pointer (some ⟨A, 0, none⟩), .pointer (some ⟨P, 0, none⟩), .bool false, .pointer (some ⟨N0, 0, none⟩), .int .i64 c, undef, undef, s 9, s 10, undef, .tuple #[(.agg #[.int .i64 X, .int .i64 Y, .int .i64 Z]), .int .i64 c], (.agg #[.int .i64 a.m0, .int .i64 a.m1, .int .i64 a.m2, .int .i64 a.m3, .int .i64 a.m4, .int .i64 a.m5, .int .i64 a.m6, .int .i64 a.m7, .int .i64 a.m8, .int .i64 a.tx, .int .i64 a.ty, .int .i64 a.tz]), (.agg #[.int .i64 px, .int .i64 py, .int .i64 pz]), .tuple #[(.agg #[.int .i64 X, .int .i64 Y, .int .i64 Z]), .int .i64 c], (.agg #[.int .i64 X, .int .i64 Y, .int .i64 Z]), .int .i64 c, .int .i64 c, .bool false, undef, undef, undef, undef, undef, undef, undef, undef, undef, undef, undef, undef, undef, undef, undef, undef, undef, undef, undef, undef, undef, undef, undef, undef, undef, undef, undef, undef, undef, undef, undef, undef, undef, s 53, s 54, s 55, s 56, s 57, s 58, undef, undef, undef, undef, undef, undef, undef, undef, undef, undef, undef, undef, undef, undef, undef, undef, undef, undef, undef, undef, undef, undef, undef, undef, undef, undef, undef, undef, undef, undef, undef, undef, undef, undef], []⟩) (fun d s b w => (Below U0.heap.size U0 w) ∧ (d 0 = true → s 54 = (.agg #[.int .i64 4294967296, .int .i64 0, .int .i64 0, .int .i64 0, .int .i64 4294967296, .int .i64 0, .int .i64 0, .int .i64 0, .int .i64 4294967296, .int .i64 0, .int .i64 0, .int .i64 0])) ∧ (d 1 = true → s 55 = (.agg #[.int .i64 px, .int .i64 py, .int .i64 pz])) ∧ (d 2 = true → s 56 = .tuple #[(.agg #[.int .i64 0, .int .i64 0, .int .i64 0]), .int .i64 8]) ∧ (d 3 = true → s 53 = .tuple #[(.agg #[.int .i64 0, .int .i64 0, .int .i64 0]), .int .i64 8]) ∧ (d 4 = true → s 57 = (.agg #[.int .i64 0, .int .i64 0, .int .i64 0])) ∧ (d 5 = true → s 58 = .int .i64 8) ∧ (d 6 = true → s 9 = .pointer (some ⟨(b 6), 0, none⟩) ∧ U0.heap.size ≤ b 6) ∧ (d 6 = true → d 7 = false → Own (b 6) [.int .i64 0, .int .i64 0, .int .i64 0] w) ∧ (d 7 = true → Own (b 6) [.int .i64 0, .int .i64 0, .int .i64 0] w) ∧ (d 7 = true → d 6 = true) ∧ (d 8 = true → s 10 = .int .i64 8)) rfl ?h0U3 (?stU3 : StepsF _ _ _ _ 9 _ _ [0, 1, 2, 3, 4, 5, 6, 7, 8]) ?dnU3
  case h0U3 => exact ⟨Below.drew (Below.refl _ _), (fun h => nomatch h), (fun h => nomatch h), (fun h => nomatch h), (fun h => nomatch h), (fun h => nomatch h), (fun h => nomatch h), (fun h => nomatch h), (fun h => nomatch h), (fun h => nomatch h), (fun h => nomatch h), (fun h => nomatch h)⟩
  case stU3 =>
    refine StepsF.cons (o := _) rfl (ws := []) (by kernel_rfl) (by decide) (fun d s b w hF hd hw K hK => ?_) ?_
    · have hB : Below U0.heap.size U0 w := (hF.out.1)
      dsimp only
      go_simp
      go_at_call 15
      refine (k3.out _).mono ?_
      rintro e w1 ⟨rfl, hb⟩
      exact hK.out (ups s 54 ((.agg #[.int .i64 4294967296, .int .i64 0, .int .i64 0, .int .i64 0, .int .i64 4294967296, .int .i64 0, .int .i64 0, .int .i64 0, .int .i64 4294967296, .int .i64 0, .int .i64 0, .int .i64 0]))) b _ ⟨(Below.go hB hb), (fun _ => rfl), (hF.out.2.2.1), (hF.out.2.2.2.1), (hF.out.2.2.2.2.1), (hF.out.2.2.2.2.2.1), (hF.out.2.2.2.2.2.2.1), (hF.out.2.2.2.2.2.2.2.1), (fun h0 h1 => ((hF.out.2.2.2.2.2.2.2.2.1) h0 h1).later hb), (fun h0 => ((hF.out.2.2.2.2.2.2.2.2.2.1) h0).later hb), (hF.out.2.2.2.2.2.2.2.2.2.2.1), (hF.out.2.2.2.2.2.2.2.2.2.2.2)⟩
    refine StepsF.cons (o := _) rfl (ws := []) (by kernel_rfl) (by decide) (fun d s b w hF hd hw K hK => ?_) ?_
    · have hB : Below U0.heap.size U0 w := (hF.out.1)
      dsimp only
      have op := HP.out.later hB
      have p0 := op.at 0 _ rfl
      have p1 := op.at 1 _ rfl
      have p2 := op.at 2 _ rfl
      clear op
      go_simp
      exact hK.out (ups s 55 ((.agg #[.int .i64 px, .int .i64 py, .int .i64 pz]))) b _ ⟨hB, (hF.out.2.1), (fun _ => rfl), (hF.out.2.2.2.1), (hF.out.2.2.2.2.1), (hF.out.2.2.2.2.2.1), (hF.out.2.2.2.2.2.2.1), (hF.out.2.2.2.2.2.2.2.1), (hF.out.2.2.2.2.2.2.2.2.1), (hF.out.2.2.2.2.2.2.2.2.2.1), (hF.out.2.2.2.2.2.2.2.2.2.2.1), (hF.out.2.2.2.2.2.2.2.2.2.2.2)⟩
    refine StepsF.cons (o := _) rfl (ws := [0, 1, 0]) (by kernel_rfl) (by decide) (fun d s b w hF hd hw K hK => ?_) ?_
    · have hB : Below U0.heap.size U0 w := (hF.out.1)
      have e0 : s 54 = (.agg #[.int .i64 4294967296, .int .i64 0, .int .i64 0, .int .i64 0, .int .i64 4294967296, .int .i64 0, .int .i64 0, .int .i64 0, .int .i64 4294967296, .int .i64 0, .int .i64 0, .int .i64 0]) := (hF.out.2.1) (hw 0 (by decide))
      have e1 : s 55 = (.agg #[.int .i64 px, .int .i64 py, .int .i64 pz]) := (hF.out.2.2.1) (hw 1 (by decide))
      dsimp only
      go_simp
      go_at_call 32
      refine (k4.out _).mono ?_
      rintro e w1 ⟨rfl, hb⟩
      exact hK.out (ups (ups (ups s 54 ((.agg #[.int .i64 4294967296, .int .i64 0, .int .i64 0, .int .i64 0, .int .i64 4294967296, .int .i64 0, .int .i64 0, .int .i64 0, .int .i64 4294967296, .int .i64 0, .int .i64 0, .int .i64 0]))) 55 ((.agg #[.int .i64 px, .int .i64 py, .int .i64 pz]))) 56 (.tuple #[(.agg #[.int .i64 0, .int .i64 0, .int .i64 0]), .int .i64 8])) b _ ⟨(Below.go hB hb), (fun _ => rfl), (fun _ => rfl), (fun _ => rfl), (hF.out.2.2.2.2.1), (hF.out.2.2.2.2.2.1), (hF.out.2.2.2.2.2.2.1), (hF.out.2.2.2.2.2.2.2.1), (fun h0 h1 => ((hF.out.2.2.2.2.2.2.2.2.1) h0 h1).later hb), (fun h0 => ((hF.out.2.2.2.2.2.2.2.2.2.1) h0).later hb), (hF.out.2.2.2.2.2.2.2.2.2.2.1), (hF.out.2.2.2.2.2.2.2.2.2.2.2)⟩
    refine StepsF.cons (o := _) rfl (ws := [2]) (by kernel_rfl) (by decide) (fun d s b w hF hd hw K hK => ?_) ?_
    · have hB : Below U0.heap.size U0 w := (hF.out.1)
      have e2 : s 56 = .tuple #[(.agg #[.int .i64 0, .int .i64 0, .int .i64 0]), .int .i64 8] := (hF.out.2.2.2.1) (hw 2 (by decide))
      dsimp only
      go_simp
      exact hK.out (ups (ups s 56 (.tuple #[(.agg #[.int .i64 0, .int .i64 0, .int .i64 0]), .int .i64 8])) 53 (.tuple #[(.agg #[.int .i64 0, .int .i64 0, .int .i64 0]), .int .i64 8])) b _ ⟨hB, (hF.out.2.1), (hF.out.2.2.1), (fun _ => rfl), (fun _ => rfl), (hF.out.2.2.2.2.2.1), (hF.out.2.2.2.2.2.2.1), (hF.out.2.2.2.2.2.2.2.1), (hF.out.2.2.2.2.2.2.2.2.1), (hF.out.2.2.2.2.2.2.2.2.2.1), (hF.out.2.2.2.2.2.2.2.2.2.2.1), (hF.out.2.2.2.2.2.2.2.2.2.2.2)⟩
    refine StepsF.cons (o := _) rfl (ws := [3]) (by kernel_rfl) (by decide) (fun d s b w hF hd hw K hK => ?_) ?_
    · have hB : Below U0.heap.size U0 w := (hF.out.1)
      have e3 : s 53 = .tuple #[(.agg #[.int .i64 0, .int .i64 0, .int .i64 0]), .int .i64 8] := (hF.out.2.2.2.2.1) (hw 3 (by decide))
      dsimp only
      go_simp
      exact hK.out (ups (ups s 53 (.tuple #[(.agg #[.int .i64 0, .int .i64 0, .int .i64 0]), .int .i64 8])) 57 ((.agg #[.int .i64 0, .int .i64 0, .int .i64 0]))) b _ ⟨hB, (hF.out.2.1), (hF.out.2.2.1), (hF.out.2.2.2.1), (fun _ => rfl), (fun _ => rfl), (hF.out.2.2.2.2.2.2.1), (hF.out.2.2.2.2.2.2.2.1), (hF.out.2.2.2.2.2.2.2.2.1), (hF.out.2.2.2.2.2.2.2.2.2.1), (hF.out.2.2.2.2.2.2.2.2.2.2.1), (hF.out.2.2.2.2.2.2.2.2.2.2.2)⟩
    refine StepsF.cons (o := _) rfl (ws := [3]) (by kernel_rfl) (by decide) (fun d s b w hF hd hw K hK => ?_) ?_
    · have hB : Below U0.heap.size U0 w := (hF.out.1)
      have e3 : s 53 = .tuple #[(.agg #[.int .i64 0, .int .i64 0, .int .i64 0]), .int .i64 8] := (hF.out.2.2.2.2.1) (hw 3 (by decide))
      dsimp only
      go_simp
      exact hK.out (ups (ups s 53 (.tuple #[(.agg #[.int .i64 0, .int .i64 0, .int .i64 0]), .int .i64 8])) 58 (.int .i64 8)) b _ ⟨hB, (hF.out.2.1), (hF.out.2.2.1), (hF.out.2.2.2.1), (fun _ => rfl), (hF.out.2.2.2.2.2.1), (fun _ => rfl), (hF.out.2.2.2.2.2.2.2.1), (hF.out.2.2.2.2.2.2.2.2.1), (hF.out.2.2.2.2.2.2.2.2.2.1), (hF.out.2.2.2.2.2.2.2.2.2.2.1), (hF.out.2.2.2.2.2.2.2.2.2.2.2)⟩
    refine StepsF.cons (o := _) rfl (ws := []) (by kernel_rfl) (by decide) (fun d s b w hF hd hw K hK => ?_) ?_
    · have hB : Below U0.heap.size U0 w := (hF.out.1)
      dsimp only
      go_simp
      exact hK.out (ups s 9 (.pointer (some ⟨w.heap.size, 0, none⟩))) (ups b 6 w.heap.size) _ ⟨(hB.alloc hB.size _), (hF.out.2.1), (hF.out.2.2.1), (hF.out.2.2.2.1), (hF.out.2.2.2.2.1), (hF.out.2.2.2.2.2.1), (hF.out.2.2.2.2.2.2.1), (fun _ => ⟨rfl, hB.size⟩), (fun _ _ => Own.newAt rfl), (fun h => absurd ((hF.out.2.2.2.2.2.2.2.2.2.2.1) h) (by simp [hd])), (fun _ => rfl), (hF.out.2.2.2.2.2.2.2.2.2.2.2)⟩
    refine StepsF.cons (o := _) rfl (ws := [6, 4, 2, 0, 1, 2, 3, 4, 6]) (by kernel_rfl) (by decide) (fun d s b w hF hd hw K hK => ?_) ?_
    · have hB : Below U0.heap.size U0 w := (hF.out.1)
      have e0 : s 54 = (.agg #[.int .i64 4294967296, .int .i64 0, .int .i64 0, .int .i64 0, .int .i64 4294967296, .int .i64 0, .int .i64 0, .int .i64 0, .int .i64 4294967296, .int .i64 0, .int .i64 0, .int .i64 0]) := (hF.out.2.1) (hw 0 (by decide))
      have e1 : s 55 = (.agg #[.int .i64 px, .int .i64 py, .int .i64 pz]) := (hF.out.2.2.1) (hw 1 (by decide))
      have e2 : s 56 = .tuple #[(.agg #[.int .i64 0, .int .i64 0, .int .i64 0]), .int .i64 8] := (hF.out.2.2.2.1) (hw 2 (by decide))
      have e3 : s 53 = .tuple #[(.agg #[.int .i64 0, .int .i64 0, .int .i64 0]), .int .i64 8] := (hF.out.2.2.2.2.1) (hw 3 (by decide))
      have e4 : s 57 = (.agg #[.int .i64 0, .int .i64 0, .int .i64 0]) := (hF.out.2.2.2.2.2.1) (hw 4 (by decide))
      have e6 : s 9 = .pointer (some ⟨(b 6), 0, none⟩) := ((hF.out.2.2.2.2.2.2.2.1) (hw 6 (by decide))).1
      have le6 : U0.heap.size ≤ b 6 := ((hF.out.2.2.2.2.2.2.2.1) (hw 6 (by decide))).2
      dsimp only
      have o6 := (hF.out.2.2.2.2.2.2.2.2.1) (hw 6 (by decide)) hd
      have fr0 := o6.ok 0 (by simp)
      have fr1 := o6.ok 1 (by simp)
      have fr2 := o6.ok 2 (by simp)
      have ce0 := o6.at 0 _ rfl
      have ce1 := o6.at 1 _ rfl
      have ce2 := o6.at 2 _ rfl
      go_simp
      exact hK.out (ups (ups (ups (ups (ups (ups s 54 ((.agg #[.int .i64 4294967296, .int .i64 0, .int .i64 0, .int .i64 0, .int .i64 4294967296, .int .i64 0, .int .i64 0, .int .i64 0, .int .i64 4294967296, .int .i64 0, .int .i64 0, .int .i64 0]))) 55 ((.agg #[.int .i64 px, .int .i64 py, .int .i64 pz]))) 56 (.tuple #[(.agg #[.int .i64 0, .int .i64 0, .int .i64 0]), .int .i64 8])) 53 (.tuple #[(.agg #[.int .i64 0, .int .i64 0, .int .i64 0]), .int .i64 8])) 57 ((.agg #[.int .i64 0, .int .i64 0, .int .i64 0]))) 9 (.pointer (some ⟨(b 6), 0, none⟩))) b _ ⟨(Below.setCells hB le6 [.int .i64 0, .int .i64 0, .int .i64 0] 0), (fun _ => rfl), (fun _ => rfl), (fun _ => rfl), (fun _ => rfl), (fun _ => rfl), (hF.out.2.2.2.2.2.2.1), (fun _ => ⟨rfl, le6⟩), (fun _ h => nomatch h), (fun _ => Own.store (vs := [.int .i64 0, .int .i64 0, .int .i64 0]) o6 rfl), (fun _ => hw 6 (by decide)), (hF.out.2.2.2.2.2.2.2.2.2.2.2)⟩
    refine StepsF.cons (o := _) rfl (ws := [5, 7, 0, 1, 2, 3, 4, 5, 6, 7]) (by kernel_rfl) (by decide) (fun d s b w hF hd hw K hK => ?_) ?_
    · have hB : Below U0.heap.size U0 w := (hF.out.1)
      have e0 : s 54 = (.agg #[.int .i64 4294967296, .int .i64 0, .int .i64 0, .int .i64 0, .int .i64 4294967296, .int .i64 0, .int .i64 0, .int .i64 0, .int .i64 4294967296, .int .i64 0, .int .i64 0, .int .i64 0]) := (hF.out.2.1) (hw 0 (by decide))
      have e1 : s 55 = (.agg #[.int .i64 px, .int .i64 py, .int .i64 pz]) := (hF.out.2.2.1) (hw 1 (by decide))
      have e2 : s 56 = .tuple #[(.agg #[.int .i64 0, .int .i64 0, .int .i64 0]), .int .i64 8] := (hF.out.2.2.2.1) (hw 2 (by decide))
      have e3 : s 53 = .tuple #[(.agg #[.int .i64 0, .int .i64 0, .int .i64 0]), .int .i64 8] := (hF.out.2.2.2.2.1) (hw 3 (by decide))
      have e4 : s 57 = (.agg #[.int .i64 0, .int .i64 0, .int .i64 0]) := (hF.out.2.2.2.2.2.1) (hw 4 (by decide))
      have e5 : s 58 = .int .i64 8 := (hF.out.2.2.2.2.2.2.1) (hw 5 (by decide))
      have e6 : s 9 = .pointer (some ⟨(b 6), 0, none⟩) := ((hF.out.2.2.2.2.2.2.2.1) (hw 6 (by decide))).1
      have le6 : U0.heap.size ≤ b 6 := ((hF.out.2.2.2.2.2.2.2.1) (hw 6 (by decide))).2
      dsimp only
      go_simp
      exact hK.out (ups (ups (ups (ups (ups (ups (ups (ups s 54 ((.agg #[.int .i64 4294967296, .int .i64 0, .int .i64 0, .int .i64 0, .int .i64 4294967296, .int .i64 0, .int .i64 0, .int .i64 0, .int .i64 4294967296, .int .i64 0, .int .i64 0, .int .i64 0]))) 55 ((.agg #[.int .i64 px, .int .i64 py, .int .i64 pz]))) 56 (.tuple #[(.agg #[.int .i64 0, .int .i64 0, .int .i64 0]), .int .i64 8])) 53 (.tuple #[(.agg #[.int .i64 0, .int .i64 0, .int .i64 0]), .int .i64 8])) 57 ((.agg #[.int .i64 0, .int .i64 0, .int .i64 0]))) 58 (.int .i64 8)) 9 (.pointer (some ⟨(b 6), 0, none⟩))) 10 (.int .i64 8)) b _ ⟨hB, (fun _ => rfl), (fun _ => rfl), (fun _ => rfl), (fun _ => rfl), (fun _ => rfl), (fun _ => rfl), (fun _ => ⟨rfl, le6⟩), (hF.out.2.2.2.2.2.2.2.2.1), (hF.out.2.2.2.2.2.2.2.2.2.1), (hF.out.2.2.2.2.2.2.2.2.2.2.1), (fun _ => rfl)⟩
    exact StepsF.nil
  intro d s b U3 hF hall
  replace hF := Lib.hid hF
  have hB : Below U0.heap.size U0 U3 := (hF.out.1)
  try dsimp only
  have e0 : s 54 = (.agg #[.int .i64 4294967296, .int .i64 0, .int .i64 0, .int .i64 0, .int .i64 4294967296, .int .i64 0, .int .i64 0, .int .i64 0, .int .i64 4294967296, .int .i64 0, .int .i64 0, .int .i64 0]) := (hF.out.2.1) (hall 0 (by decide))
  have e1 : s 55 = (.agg #[.int .i64 px, .int .i64 py, .int .i64 pz]) := (hF.out.2.2.1) (hall 1 (by decide))
  have e2 : s 56 = .tuple #[(.agg #[.int .i64 0, .int .i64 0, .int .i64 0]), .int .i64 8] := (hF.out.2.2.2.1) (hall 2 (by decide))
  have e3 : s 53 = .tuple #[(.agg #[.int .i64 0, .int .i64 0, .int .i64 0]), .int .i64 8] := (hF.out.2.2.2.2.1) (hall 3 (by decide))
  have e4 : s 57 = (.agg #[.int .i64 0, .int .i64 0, .int .i64 0]) := (hF.out.2.2.2.2.2.1) (hall 4 (by decide))
  have e5 : s 58 = .int .i64 8 := (hF.out.2.2.2.2.2.2.1) (hall 5 (by decide))
  have e6 : s 9 = .pointer (some ⟨(b 6), 0, none⟩) := ((hF.out.2.2.2.2.2.2.2.1) (hall 6 (by decide))).1
  have le6 : U0.heap.size ≤ b 6 := ((hF.out.2.2.2.2.2.2.2.1) (hall 6 (by decide))).2
  have f7 := (hF.out.2.2.2.2.2.2.2.2.2.1) (hall 7 (by decide))
  have e8 : s 10 = .int .i64 8 := (hF.out.2.2.2.2.2.2.2.2.2.2.2) (hall 8 (by decide))
  rw [e0, e1, e2, e3, e4, e5, e6, e8]
  clear hall hF e0 e1 e2 e3 e4 e5 e6 e8
  obtain ⟨N2, hz⟩ : ∃ x, x = b 6 := ⟨_, rfl⟩
  rw [← hz] at le6 f7 ⊢
  clear hz
  clear d s b
  replace HP := Lib.hid (HP.out.later hB)
  have hB3 : Below w.heap.size w U3 := Below.go hB1 hB
  have HN2 := Lib.hid f7
  clear hB1 hB k3 k4 f7
  have oP := HP.out
  have P0 := oP.at 0 _ rfl
  have P1 := oP.at 1 _ rfl
  have P2 := oP.at 2 _ rfl
  have Pl := oP.lt
  clear oP
  have oN2 := HN2.out
  have N20 := oN2.at 0 _ rfl
  have N21 := oN2.at 1 _ rfl
  have N22 := oN2.at 2 _ rfl
  have N2l := oN2.lt
  clear oN2
  clear HP HN2
  have hmx := mx3_gt px py pz 65536
  have hmn := mn3_lt px py pz (-65536)
  have ho := hon.out
  by_cases h1 : mx3 px py pz ≤ 65536
  · have e1 : decide (mx3 px py pz ≤ 65536) = true := by simpa using h1
    have e2 : decide (-65536 ≤ mn3 px py pz) = false := by simp; omega
    clear hmx hmn ho h1 hon
    go_wp2_with (go_at_call 23; refine (k6.out _).mono ?_; rintro e w7 ⟨rfl, hb⟩)
    go_ret
    exact ⟨rfl, Below.go hB3 hb⟩
  · have e1 : decide (mx3 px py pz ≤ 65536) = false := by simpa using h1
    clear hmx hmn ho h1 hon
    go_wp2_with (go_at_call 23; refine (k6.out _).mono ?_; rintro e w7 ⟨rfl, hb⟩)
    go_ret
    exact ⟨rfl, Below.go hB3 hb⟩
end Go.Proofs.Ytalanlekdgobmaa
