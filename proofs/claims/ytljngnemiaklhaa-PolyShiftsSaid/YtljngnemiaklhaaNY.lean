/- PolySame, PolyTags: the walks. -/
import Derived.Test.YtljngnemiaklhaaNX
import Derived.Test.YtljngnemiaklhaaNR
import Derived.Lib.Hide
namespace Go.Proofs.Ytljngnemiaklhaa
set_option linter.unusedVariables false
set_option maxRecDepth 2000
set_option linter.unusedSimpArgs false
open Go.RowKit
attribute [local go_sem] nums_length

set_option maxHeartbeats 4000000 in
theorem Same_law (f g : Nat → Int) (hf : ∀ i, i < 16 → inB (f i)) (hg : ∀ i, i < 16 → inB (g i)) (w : World) :
    Calls Try.prog 5 #[(.agg (nums .u8 f 16).toArray), (.agg (nums .u8 g 16).toArray)] w fun e w' => e = .returned (.bool true) ∧ Below w.heap.size w w' := by
  have SA := Lib.hid (fun w => Same_any_ f g hf hg w)
  have SB := Lib.hid (fun w => Same_any_ f f hf hf w)
  have EQ := Lib.hid (fun w => eq16 f g w)
  rw [eqB_self] at SB
  generalize eqB f g 16 = q at *
  clear hf hg
  go_enter Try.func5, Try.ntmps5
  go_upto_region 1 with fail
  obtain ⟨W0, hW⟩ : ∃ W0, W0 = ((w.alloc (.cells (nums .u8 f 16).toArray 23)).alloc (.cells (nums .u8 g 16).toArray 23)) := ⟨_, rfl⟩
  have hB0 : Below w.heap.size w W0 := hW ▸ (Below.al (Below.al (Below.refl _ _)))
  have HX : Hid (Own w.heap.size (nums .u8 f 16) W0) := Lib.hid (hW ▸ (show Own w.heap.size (nums .u8 f 16) (w.alloc (.cells (nums .u8 f 16).toArray 23)) from Own.newAt (by simp)).alloc)
  have HY : Hid (Own (w.heap.size + 1) (nums .u8 g 16) W0) := Lib.hid (hW ▸ (show Own (w.heap.size + 1) (nums .u8 g 16) ((w.alloc (.cells (nums .u8 f 16).toArray 23)).alloc (.cells (nums .u8 g 16).toArray 23)) from Own.newAt (by simp)))
  rw [← hW]
  clear hW
  obtain ⟨Y, eY⟩ : ∃ X, X = (w.heap.size + 1) := ⟨_, rfl⟩
  rw [← eY] at HY ⊢
  have Yw : w.heap.size ≤ Y := by omega
  obtain ⟨X, eX⟩ : ∃ X, X = w.heap.size := ⟨_, rfl⟩
  rw [← eX] at HX ⊢
  have Xw : w.heap.size ≤ X := by omega
  have nXY : X ≠ Y := by omega
  have nYX : Y ≠ X := by omega
  clear eX eY
  refine wp_region_fun 16 (by kernel_rfl) (by kernel_rfl) rfl (fun s b => ⟨#[.agg (nums .u8 f 16).toArray, .agg (nums .u8 g 16).toArray, .pointer (some ⟨X, 0, none⟩), .pointer (some ⟨Y, 0, none⟩), s 4, s 5, s 6, s 7, s 8, s 9, s 10, s 11, s 12, s 13, s 14, s 15, s 16, s 17, s 18, s 19], []⟩) (fun d s b w => (Below W0.heap.size W0 w) ∧ (d 0 = true → s 5 = .agg (nums .u8 f 16).toArray) ∧ (d 1 = true → s 6 = .agg (nums .u8 g 16).toArray) ∧ (d 2 = true → s 7 = .bool q) ∧ (d 3 = true → s 8 = .agg (nums .u8 f 16).toArray) ∧ (d 4 = true → s 9 = .agg (nums .u8 g 16).toArray) ∧ (d 5 = true → s 10 = .bool q) ∧ (d 6 = true → s 11 = .bool true) ∧ (d 7 = true → s 12 = .bool true) ∧ (d 8 = true → s 13 = .agg (nums .u8 f 16).toArray) ∧ (d 9 = true → s 14 = .agg (nums .u8 f 16).toArray) ∧ (d 10 = true → s 15 = .bool true) ∧ (d 11 = true → s 16 = .bool true) ∧ (d 12 = true → s 17 = .bool true) ∧ (d 13 = true → s 18 = .bool true) ∧ (d 14 = true → s 19 = .bool true) ∧ (d 15 = true → s 4 = .bool true)) rfl ?h0y1 (?sty1 : StepsF _ _ _ _ 16 _ _ [0, 1, 2, 3, 4, 5, 6, 7, 8, 9, 10, 11, 12, 13, 14, 15]) ?dny1
  case h0y1 => exact ⟨Below.drew (Below.refl _ _), (fun h => nomatch h), (fun h => nomatch h), (fun h => nomatch h), (fun h => nomatch h), (fun h => nomatch h), (fun h => nomatch h), (fun h => nomatch h), (fun h => nomatch h), (fun h => nomatch h), (fun h => nomatch h), (fun h => nomatch h), (fun h => nomatch h), (fun h => nomatch h), (fun h => nomatch h), (fun h => nomatch h), (fun h => nomatch h)⟩
  case sty1 =>
    refine StepsF.cons (o := _) rfl (ws := []) (by kernel_rfl) (by decide) (fun d s b w hF hd hw K_ hK => ?_) ?_
    · have hB : Below W0.heap.size W0 w := (p0_ hF.out)
      refine step_load (by simp [Region.wanted]) 23 _ rfl X 0 rfl (nums .u8 f 16) _ (HX.out.later hB).cell Try.underlying23 rfl (by kernel_rfl) ?_
      exact hK.out (ups s 5 (.agg (nums .u8 f 16).toArray)) b _ ⟨hB, (fun _ => rfl), (p2_ hF.out), (p3_ hF.out), (p4_ hF.out), (p5_ hF.out), (p6_ hF.out), (p7_ hF.out), (p8_ hF.out), (p9_ hF.out), (p10_ hF.out), (p11_ hF.out), (p12_ hF.out), (p13_ hF.out), (p14_ hF.out), (p15_ hF.out), (q16_ hF.out)⟩
    refine StepsF.cons (o := _) rfl (ws := []) (by kernel_rfl) (by decide) (fun d s b w hF hd hw K_ hK => ?_) ?_
    · have hB : Below W0.heap.size W0 w := (p0_ hF.out)
      refine step_load (by simp [Region.wanted]) 23 _ rfl Y 0 rfl (nums .u8 g 16) _ (HY.out.later hB).cell Try.underlying23 rfl (by kernel_rfl) ?_
      exact hK.out (ups s 6 (.agg (nums .u8 g 16).toArray)) b _ ⟨hB, (p1_ hF.out), (fun _ => rfl), (p3_ hF.out), (p4_ hF.out), (p5_ hF.out), (p6_ hF.out), (p7_ hF.out), (p8_ hF.out), (p9_ hF.out), (p10_ hF.out), (p11_ hF.out), (p12_ hF.out), (p13_ hF.out), (p14_ hF.out), (p15_ hF.out), (q16_ hF.out)⟩
    refine StepsF.cons (o := _) rfl (ws := [0, 1]) (by kernel_rfl) (by decide) (fun d s b w hF hd hw K_ hK => ?_) ?_
    · have hB : Below W0.heap.size W0 w := (p0_ hF.out)
      have e0 : s 5 = .agg (nums .u8 f 16).toArray := (p1_ hF.out) (hw 0 (by decide))
      have e1 : s 6 = .agg (nums .u8 g 16).toArray := (p2_ hF.out) (hw 1 (by decide))
      dsimp only
      go_simp
      go_at_call 18
      refine (SA.out _).mono ?_
      rintro e w1 ⟨rfl, hb⟩
      exact hK.out (ups (ups (ups s 5 (.agg (nums .u8 f 16).toArray)) 6 (.agg (nums .u8 g 16).toArray)) 7 (.bool q)) b _ ⟨(Below.go hB hb), (fun _ => rfl), (fun _ => rfl), (fun _ => rfl), (p4_ hF.out), (p5_ hF.out), (p6_ hF.out), (p7_ hF.out), (p8_ hF.out), (p9_ hF.out), (p10_ hF.out), (p11_ hF.out), (p12_ hF.out), (p13_ hF.out), (p14_ hF.out), (p15_ hF.out), (q16_ hF.out)⟩
    refine StepsF.cons (o := _) rfl (ws := []) (by kernel_rfl) (by decide) (fun d s b w hF hd hw K_ hK => ?_) ?_
    · have hB : Below W0.heap.size W0 w := (p0_ hF.out)
      refine step_load (by simp [Region.wanted]) 23 _ rfl X 0 rfl (nums .u8 f 16) _ (HX.out.later hB).cell Try.underlying23 rfl (by kernel_rfl) ?_
      exact hK.out (ups s 8 (.agg (nums .u8 f 16).toArray)) b _ ⟨hB, (p1_ hF.out), (p2_ hF.out), (p3_ hF.out), (fun _ => rfl), (p5_ hF.out), (p6_ hF.out), (p7_ hF.out), (p8_ hF.out), (p9_ hF.out), (p10_ hF.out), (p11_ hF.out), (p12_ hF.out), (p13_ hF.out), (p14_ hF.out), (p15_ hF.out), (q16_ hF.out)⟩
    refine StepsF.cons (o := _) rfl (ws := []) (by kernel_rfl) (by decide) (fun d s b w hF hd hw K_ hK => ?_) ?_
    · have hB : Below W0.heap.size W0 w := (p0_ hF.out)
      refine step_load (by simp [Region.wanted]) 23 _ rfl Y 0 rfl (nums .u8 g 16) _ (HY.out.later hB).cell Try.underlying23 rfl (by kernel_rfl) ?_
      exact hK.out (ups s 9 (.agg (nums .u8 g 16).toArray)) b _ ⟨hB, (p1_ hF.out), (p2_ hF.out), (p3_ hF.out), (p4_ hF.out), (fun _ => rfl), (p6_ hF.out), (p7_ hF.out), (p8_ hF.out), (p9_ hF.out), (p10_ hF.out), (p11_ hF.out), (p12_ hF.out), (p13_ hF.out), (p14_ hF.out), (p15_ hF.out), (q16_ hF.out)⟩
    refine StepsF.cons (o := _) rfl (ws := [3, 4]) (by kernel_rfl) (by decide) (fun d s b w hF hd hw K_ hK => ?_) ?_
    · have hB : Below W0.heap.size W0 w := (p0_ hF.out)
      have e3 : s 8 = .agg (nums .u8 f 16).toArray := (p4_ hF.out) (hw 3 (by decide))
      have e4 : s 9 = .agg (nums .u8 g 16).toArray := (p5_ hF.out) (hw 4 (by decide))
      dsimp only
      have hq := EQ.out w
      go_simp
      exact hK.out (ups (ups (ups s 8 (.agg (nums .u8 f 16).toArray)) 9 (.agg (nums .u8 g 16).toArray)) 10 (.bool q)) b _ ⟨hB, (p1_ hF.out), (p2_ hF.out), (p3_ hF.out), (fun _ => rfl), (fun _ => rfl), (fun _ => rfl), (p7_ hF.out), (p8_ hF.out), (p9_ hF.out), (p10_ hF.out), (p11_ hF.out), (p12_ hF.out), (p13_ hF.out), (p14_ hF.out), (p15_ hF.out), (q16_ hF.out)⟩
    refine StepsF.cons (o := _) rfl (ws := [2, 5]) (by kernel_rfl) (by decide) (fun d s b w hF hd hw K_ hK => ?_) ?_
    · have hB : Below W0.heap.size W0 w := (p0_ hF.out)
      have e2 : s 7 = .bool q := (p3_ hF.out) (hw 2 (by decide))
      have e5 : s 10 = .bool q := (p6_ hF.out) (hw 5 (by decide))
      dsimp only
      go_simp
      exact hK.out (ups (ups (ups s 7 (.bool q)) 10 (.bool q)) 11 (.bool true)) b _ ⟨hB, (p1_ hF.out), (p2_ hF.out), (fun _ => rfl), (p4_ hF.out), (p5_ hF.out), (fun _ => rfl), (fun _ => rfl), (p8_ hF.out), (p9_ hF.out), (p10_ hF.out), (p11_ hF.out), (p12_ hF.out), (p13_ hF.out), (p14_ hF.out), (p15_ hF.out), (q16_ hF.out)⟩
    refine StepsF.cons (o := _) rfl (ws := [6, 2]) (by kernel_rfl) (by decide) (fun d s b w hF hd hw K_ hK => ?_) ?_
    · have hB : Below W0.heap.size W0 w := (p0_ hF.out)
      have e2 : s 7 = .bool q := (p3_ hF.out) (hw 2 (by decide))
      have e6 : s 11 = .bool true := (p7_ hF.out) (hw 6 (by decide))
      dsimp only
      go_simp
      exact hK.out (ups (ups (ups s 7 (.bool q)) 11 (.bool true)) 12 (.bool true)) b _ ⟨hB, (p1_ hF.out), (p2_ hF.out), (fun _ => rfl), (p4_ hF.out), (p5_ hF.out), (p6_ hF.out), (fun _ => rfl), (fun _ => rfl), (p9_ hF.out), (p10_ hF.out), (p11_ hF.out), (p12_ hF.out), (p13_ hF.out), (p14_ hF.out), (p15_ hF.out), (q16_ hF.out)⟩
    refine StepsF.cons (o := _) rfl (ws := [7]) (by kernel_rfl) (by decide) (fun d s b w hF hd hw K_ hK => ?_) ?_
    · have hB : Below W0.heap.size W0 w := (p0_ hF.out)
      have e7 : s 12 = .bool true := (p8_ hF.out) (hw 7 (by decide))
      refine step_load (by simp [Region.wanted, yielded, e7]) 23 _ rfl X 0 rfl (nums .u8 f 16) _ (HX.out.later hB).cell Try.underlying23 rfl (by kernel_rfl) ?_
      exact hK.out (ups s 13 (.agg (nums .u8 f 16).toArray)) b _ ⟨hB, (p1_ hF.out), (p2_ hF.out), (p3_ hF.out), (p4_ hF.out), (p5_ hF.out), (p6_ hF.out), (p7_ hF.out), (p8_ hF.out), (fun _ => rfl), (p10_ hF.out), (p11_ hF.out), (p12_ hF.out), (p13_ hF.out), (p14_ hF.out), (p15_ hF.out), (q16_ hF.out)⟩
    refine StepsF.cons (o := _) rfl (ws := [7]) (by kernel_rfl) (by decide) (fun d s b w hF hd hw K_ hK => ?_) ?_
    · have hB : Below W0.heap.size W0 w := (p0_ hF.out)
      have e7 : s 12 = .bool true := (p8_ hF.out) (hw 7 (by decide))
      refine step_load (by simp [Region.wanted, yielded, e7]) 23 _ rfl X 0 rfl (nums .u8 f 16) _ (HX.out.later hB).cell Try.underlying23 rfl (by kernel_rfl) ?_
      exact hK.out (ups s 14 (.agg (nums .u8 f 16).toArray)) b _ ⟨hB, (p1_ hF.out), (p2_ hF.out), (p3_ hF.out), (p4_ hF.out), (p5_ hF.out), (p6_ hF.out), (p7_ hF.out), (p8_ hF.out), (p9_ hF.out), (fun _ => rfl), (p11_ hF.out), (p12_ hF.out), (p13_ hF.out), (p14_ hF.out), (p15_ hF.out), (q16_ hF.out)⟩
    refine StepsF.cons (o := _) rfl (ws := [8, 9, 7, 7]) (by kernel_rfl) (by decide) (fun d s b w hF hd hw K_ hK => ?_) ?_
    · have hB : Below W0.heap.size W0 w := (p0_ hF.out)
      have e7 : s 12 = .bool true := (p8_ hF.out) (hw 7 (by decide))
      have e8 : s 13 = .agg (nums .u8 f 16).toArray := (p9_ hF.out) (hw 8 (by decide))
      have e9 : s 14 = .agg (nums .u8 f 16).toArray := (p10_ hF.out) (hw 9 (by decide))
      dsimp only
      go_simp
      go_at_call 18
      refine (SB.out _).mono ?_
      rintro e w1 ⟨rfl, hb⟩
      exact hK.out (ups (ups (ups (ups s 12 (.bool true)) 13 (.agg (nums .u8 f 16).toArray)) 14 (.agg (nums .u8 f 16).toArray)) 15 (.bool true)) b _ ⟨(Below.go hB hb), (p1_ hF.out), (p2_ hF.out), (p3_ hF.out), (p4_ hF.out), (p5_ hF.out), (p6_ hF.out), (p7_ hF.out), (fun _ => rfl), (fun _ => rfl), (fun _ => rfl), (fun _ => rfl), (p12_ hF.out), (p13_ hF.out), (p14_ hF.out), (p15_ hF.out), (q16_ hF.out)⟩
    refine StepsF.cons (o := _) rfl (ws := [7, 10]) (by kernel_rfl) (by decide) (fun d s b w hF hd hw K_ hK => ?_) ?_
    · have hB : Below W0.heap.size W0 w := (p0_ hF.out)
      have e7 : s 12 = .bool true := (p8_ hF.out) (hw 7 (by decide))
      have e10 : s 15 = .bool true := (p11_ hF.out) (hw 10 (by decide))
      dsimp only
      go_simp
      exact hK.out (ups (ups (ups s 12 (.bool true)) 15 (.bool true)) 16 (.bool true)) b _ ⟨hB, (p1_ hF.out), (p2_ hF.out), (p3_ hF.out), (p4_ hF.out), (p5_ hF.out), (p6_ hF.out), (p7_ hF.out), (fun _ => rfl), (p9_ hF.out), (p10_ hF.out), (fun _ => rfl), (fun _ => rfl), (p13_ hF.out), (p14_ hF.out), (p15_ hF.out), (q16_ hF.out)⟩
    refine StepsF.cons (o := _) rfl (ws := [11, 10]) (by kernel_rfl) (by decide) (fun d s b w hF hd hw K_ hK => ?_) ?_
    · have hB : Below W0.heap.size W0 w := (p0_ hF.out)
      have e10 : s 15 = .bool true := (p11_ hF.out) (hw 10 (by decide))
      have e11 : s 16 = .bool true := (p12_ hF.out) (hw 11 (by decide))
      dsimp only
      go_simp
      exact hK.out (ups (ups (ups s 15 (.bool true)) 16 (.bool true)) 17 (.bool true)) b _ ⟨hB, (p1_ hF.out), (p2_ hF.out), (p3_ hF.out), (p4_ hF.out), (p5_ hF.out), (p6_ hF.out), (p7_ hF.out), (p8_ hF.out), (p9_ hF.out), (p10_ hF.out), (fun _ => rfl), (fun _ => rfl), (fun _ => rfl), (p14_ hF.out), (p15_ hF.out), (q16_ hF.out)⟩
    refine StepsF.cons (o := _) rfl (ws := [12, 12]) (by kernel_rfl) (by decide) (fun d s b w hF hd hw K_ hK => ?_) ?_
    · have hB : Below W0.heap.size W0 w := (p0_ hF.out)
      have e12 : s 17 = .bool true := (p13_ hF.out) (hw 12 (by decide))
      dsimp only
      go_simp
      go_at_call 15
      refine (works_any _).mono ?_
      rintro e w1 ⟨rfl, hb⟩
      exact hK.out (ups (ups s 17 (.bool true)) 18 (.bool true)) b _ ⟨(Below.go hB hb), (p1_ hF.out), (p2_ hF.out), (p3_ hF.out), (p4_ hF.out), (p5_ hF.out), (p6_ hF.out), (p7_ hF.out), (p8_ hF.out), (p9_ hF.out), (p10_ hF.out), (p11_ hF.out), (p12_ hF.out), (fun _ => rfl), (fun _ => rfl), (p15_ hF.out), (q16_ hF.out)⟩
    refine StepsF.cons (o := _) rfl (ws := [12, 13]) (by kernel_rfl) (by decide) (fun d s b w hF hd hw K_ hK => ?_) ?_
    · have hB : Below W0.heap.size W0 w := (p0_ hF.out)
      have e12 : s 17 = .bool true := (p13_ hF.out) (hw 12 (by decide))
      have e13 : s 18 = .bool true := (p14_ hF.out) (hw 13 (by decide))
      dsimp only
      go_simp
      exact hK.out (ups (ups (ups s 17 (.bool true)) 18 (.bool true)) 19 (.bool true)) b _ ⟨hB, (p1_ hF.out), (p2_ hF.out), (p3_ hF.out), (p4_ hF.out), (p5_ hF.out), (p6_ hF.out), (p7_ hF.out), (p8_ hF.out), (p9_ hF.out), (p10_ hF.out), (p11_ hF.out), (p12_ hF.out), (fun _ => rfl), (fun _ => rfl), (fun _ => rfl), (q16_ hF.out)⟩
    refine StepsF.cons (o := _) rfl (ws := [14, 13, 0, 1, 2, 3, 4, 5, 6, 7, 8, 9, 10, 11, 12, 13, 14]) (by kernel_rfl) (by decide) (fun d s b w hF hd hw K_ hK => ?_) ?_
    · have hB : Below W0.heap.size W0 w := (p0_ hF.out)
      have e0 : s 5 = .agg (nums .u8 f 16).toArray := (p1_ hF.out) (hw 0 (by decide))
      have e1 : s 6 = .agg (nums .u8 g 16).toArray := (p2_ hF.out) (hw 1 (by decide))
      have e2 : s 7 = .bool q := (p3_ hF.out) (hw 2 (by decide))
      have e3 : s 8 = .agg (nums .u8 f 16).toArray := (p4_ hF.out) (hw 3 (by decide))
      have e4 : s 9 = .agg (nums .u8 g 16).toArray := (p5_ hF.out) (hw 4 (by decide))
      have e5 : s 10 = .bool q := (p6_ hF.out) (hw 5 (by decide))
      have e6 : s 11 = .bool true := (p7_ hF.out) (hw 6 (by decide))
      have e7 : s 12 = .bool true := (p8_ hF.out) (hw 7 (by decide))
      have e8 : s 13 = .agg (nums .u8 f 16).toArray := (p9_ hF.out) (hw 8 (by decide))
      have e9 : s 14 = .agg (nums .u8 f 16).toArray := (p10_ hF.out) (hw 9 (by decide))
      have e10 : s 15 = .bool true := (p11_ hF.out) (hw 10 (by decide))
      have e11 : s 16 = .bool true := (p12_ hF.out) (hw 11 (by decide))
      have e12 : s 17 = .bool true := (p13_ hF.out) (hw 12 (by decide))
      have e13 : s 18 = .bool true := (p14_ hF.out) (hw 13 (by decide))
      have e14 : s 19 = .bool true := (p15_ hF.out) (hw 14 (by decide))
      dsimp only
      go_simp
      exact hK.out (ups (ups (ups (ups (ups (ups (ups (ups (ups (ups (ups (ups (ups (ups (ups (ups s 5 (.agg (nums .u8 f 16).toArray)) 6 (.agg (nums .u8 g 16).toArray)) 7 (.bool q)) 8 (.agg (nums .u8 f 16).toArray)) 9 (.agg (nums .u8 g 16).toArray)) 10 (.bool q)) 11 (.bool true)) 12 (.bool true)) 13 (.agg (nums .u8 f 16).toArray)) 14 (.agg (nums .u8 f 16).toArray)) 15 (.bool true)) 16 (.bool true)) 17 (.bool true)) 18 (.bool true)) 19 (.bool true)) 4 (.bool true)) b _ ⟨hB, (fun _ => rfl), (fun _ => rfl), (fun _ => rfl), (fun _ => rfl), (fun _ => rfl), (fun _ => rfl), (fun _ => rfl), (fun _ => rfl), (fun _ => rfl), (fun _ => rfl), (fun _ => rfl), (fun _ => rfl), (fun _ => rfl), (fun _ => rfl), (fun _ => rfl), (fun _ => rfl)⟩
    exact StepsF.nil
  intro d s b y1 hF hall
  replace hF := Lib.hid hF
  have hB : Below W0.heap.size W0 y1 := (p0_ hF.out)
  try dsimp only
  have e0 : s 5 = .agg (nums .u8 f 16).toArray := (p1_ hF.out) (hall 0 (by decide))
  have e1 : s 6 = .agg (nums .u8 g 16).toArray := (p2_ hF.out) (hall 1 (by decide))
  have e2 : s 7 = .bool q := (p3_ hF.out) (hall 2 (by decide))
  have e3 : s 8 = .agg (nums .u8 f 16).toArray := (p4_ hF.out) (hall 3 (by decide))
  have e4 : s 9 = .agg (nums .u8 g 16).toArray := (p5_ hF.out) (hall 4 (by decide))
  have e5 : s 10 = .bool q := (p6_ hF.out) (hall 5 (by decide))
  have e6 : s 11 = .bool true := (p7_ hF.out) (hall 6 (by decide))
  have e7 : s 12 = .bool true := (p8_ hF.out) (hall 7 (by decide))
  have e8 : s 13 = .agg (nums .u8 f 16).toArray := (p9_ hF.out) (hall 8 (by decide))
  have e9 : s 14 = .agg (nums .u8 f 16).toArray := (p10_ hF.out) (hall 9 (by decide))
  have e10 : s 15 = .bool true := (p11_ hF.out) (hall 10 (by decide))
  have e11 : s 16 = .bool true := (p12_ hF.out) (hall 11 (by decide))
  have e12 : s 17 = .bool true := (p13_ hF.out) (hall 12 (by decide))
  have e13 : s 18 = .bool true := (p14_ hF.out) (hall 13 (by decide))
  have e14 : s 19 = .bool true := (p15_ hF.out) (hall 14 (by decide))
  have e15 : s 4 = .bool true := (q16_ hF.out) (hall 15 (by decide))
  rw [e0, e1, e2, e3, e4, e5, e6, e7, e8, e9, e10, e11, e12, e13, e14, e15]
  clear hall hF e0 e1 e2 e3 e4 e5 e6 e7 e8 e9 e10 e11 e12 e13 e14 e15
  clear d s b
  go_wp2_with (fail)
  go_ret
  exact ⟨rfl, Below.go hB0 hB⟩

/-- a list of one part -/
theorem one_part {w : World} {L : Nat} {q : Option Addr} {m c : Nat} {f : Nat → Int} (h : Own L [.slice q m c] w) (hb : Byt w q m f) (hmc : m ≤ c) (hc : c ≤ 9223372036854775807) : Parts w (some ⟨L, 0, none⟩) 1 f (fun k => k * m) := fun k hk => by
  obtain rfl : k = 0 := by omega
  refine ⟨L, 0, q, m, c, rfl, h.lt, h.at 0 _ rfl, hmc, hc, (show (0 + 1) * m = 0 * m + m by omega), ?_⟩
  rcases hb with h0 | ⟨b, off, e1, e2⟩
  · exact .inl h0
  · refine .inr ⟨b, off, e1, ?_⟩
    rw [nums_congr (g := f) .u8 (fun j _ => by show f (0 * m + j) = f j; rw [Nat.zero_mul, Nat.zero_add])]
    exact e2
theorem Tag_one (kf f : Nat → Int) (L : Nat) (q : Option Addr) (m c : Nat) (hk : ∀ i, i < 32 → inB (kf i)) (hf : ∀ i, i < m → inB (f i)) (hm : m ≤ 65536) (hmc : m ≤ c) (hc : c ≤ 9223372036854775807) (w : World) (h : Own L [.slice q m c] w) (hb : Byt w q m f) :
    Calls Try.prog 16 #[(.agg (nums .u8 kf 32).toArray), .slice (some ⟨L, 0, none⟩) 1 1] w fun e w' => e = .returned (.agg (nums .u8 (byt (tagN kf f m)) 16).toArray) ∧ Below w.heap.size w w' := by
  have := Tag_any kf f (some ⟨L, 0, none⟩) 1 1 (fun k => k * m) hk (fun i hi => hf i (by omega)) (Nat.zero_mul m) (fun k hk => by have : k * m ≤ 1 * m := Nat.mul_le_mul_right m hk; omega) (Nat.le_refl _) (by decide) w (one_part h hb hmc hc)
  rwa [Nat.one_mul] at this
set_option maxHeartbeats 4000000 in
theorem Tags_law (kf f : Nat → Int) (p : Option Addr) (n c m : Nat) (e : (if 300 < (n : Int) then 300 else (n : Int)) = (m : Int)) (hk : ∀ i, i < 32 → inB (kf i)) (hf : ∀ i, i < m → inB (f i)) (hnc : n ≤ c) (hc : c ≤ 9223372036854775807) (w : World) (hb : Byt w p m f) :
    Calls Try.prog 4 #[(.agg (nums .u8 kf 32).toArray), .slice p n c] w fun e w' => e = .returned (.bool true) ∧ Below w.heap.size w w' := by
  have hmn : m ≤ n := by split at e <;> omega
  have hm3 : m ≤ 300 := by split at e <;> omega
  have FW := Lib.hid (fun w => few_any p n c m e (by omega) w)
  have TG := Lib.hid (fun L w h hb => Tag_one kf f L p m c hk hf (by omega) (by omega) hc w h hb)
  have RT := Lib.hid (fun w hb => RTag_any kf f p m c hk hf (by omega) (by omega) hc w hb)
  obtain ⟨T_, eT⟩ : ∃ x, tagN kf f m = x := ⟨_, rfl⟩
  rw [eT] at TG RT
  have EQ := Lib.hid (fun w => eq16 (byt T_) (byt T_) w)
  rw [eqB_self] at EQ
  have BY0 := Lib.hid hb
  clear eT e hk hf hnc hc hmn hm3 hb
  go_enter Try.func4, Try.ntmps4
  go_upto_region 1 with fail
  obtain ⟨W0, hW⟩ : ∃ W0, W0 = (w.alloc (.cells (nums .u8 kf 32).toArray 31)) := ⟨_, rfl⟩
  have hB0 : Below w.heap.size w W0 := hW ▸ (Below.al (Below.refl _ _))
  have HY : Hid (Own w.heap.size (nums .u8 kf 32) W0) := Lib.hid (hW ▸ (show Own w.heap.size (nums .u8 kf 32) (w.alloc (.cells (nums .u8 kf 32).toArray 31)) from Own.newAt (by simp)))
  rw [← hW]
  clear hW
  obtain ⟨Y, eY⟩ : ∃ X, X = w.heap.size := ⟨_, rfl⟩
  rw [← eY] at HY ⊢
  have Yw : w.heap.size ≤ Y := by omega
  clear eY
  have BY := Lib.hid (BY0.out.later hB0)
  clear BY0
  refine wp_region_fun 14 (by kernel_rfl) (by kernel_rfl) rfl (fun s b => ⟨#[.agg (nums .u8 kf 32).toArray, .slice p n c, .pointer (some ⟨Y, 0, none⟩), undef, s 4, s 5, s 6, s 7, s 8, s 9, s 10, s 11, s 12, s 13, s 14, s 15, s 16, s 17], []⟩) (fun d s b w => (Below W0.heap.size W0 w) ∧ (d 0 = true → s 5 = .agg (nums .u8 kf 32).toArray) ∧ (d 1 = true → s 6 = .slice p n c) ∧ (d 2 = true → s 7 = .slice p m c) ∧ (d 3 = true → s 8 = .slice (some ⟨(b 3), 0, none⟩) 1 1 ∧ W0.heap.size ≤ b 3) ∧ (d 3 = true → d 4 = false → Own (b 3) [.slice p m c] w) ∧ (d 4 = true → s 9 = .agg (nums .u8 (byt T_) 16).toArray) ∧ (d 5 = true → s 10 = .agg (nums .u8 kf 32).toArray) ∧ (d 6 = true → s 11 = .slice p n c) ∧ (d 7 = true → s 12 = .slice p m c) ∧ (d 8 = true → s 13 = .agg (nums .u8 (byt T_) 16).toArray) ∧ (d 9 = true → s 14 = .bool true) ∧ (d 10 = true → s 15 = .bool true) ∧ (d 11 = true → s 16 = .bool true) ∧ (d 12 = true → s 17 = .bool true) ∧ (d 13 = true → s 4 = .bool true)) rfl ?h0y2 (?sty2 : StepsF _ _ _ _ 14 _ _ [0, 1, 2, 3, 4, 5, 6, 7, 8, 9, 10, 11, 12, 13]) ?dny2
  case h0y2 => exact ⟨Below.drew (Below.refl _ _), (fun h => nomatch h), (fun h => nomatch h), (fun h => nomatch h), (fun h => nomatch h), (fun h => nomatch h), (fun h => nomatch h), (fun h => nomatch h), (fun h => nomatch h), (fun h => nomatch h), (fun h => nomatch h), (fun h => nomatch h), (fun h => nomatch h), (fun h => nomatch h), (fun h => nomatch h), (fun h => nomatch h)⟩
  case sty2 =>
    refine StepsF.cons (o := _) rfl (ws := []) (by kernel_rfl) (by decide) (fun d s b w hF hd hw K_ hK => ?_) ?_
    · have hB : Below W0.heap.size W0 w := (p0_ hF.out)
      refine step_load (by simp [Region.wanted]) 31 _ rfl Y 0 rfl (nums .u8 kf 32) _ (HY.out.later hB).cell Try.underlying31 rfl (by kernel_rfl) ?_
      exact hK.out (ups s 5 (.agg (nums .u8 kf 32).toArray)) b _ ⟨hB, (fun _ => rfl), (p2_ hF.out), (p3_ hF.out), (p4_ hF.out), (p5_ hF.out), (p6_ hF.out), (p7_ hF.out), (p8_ hF.out), (p9_ hF.out), (p10_ hF.out), (p11_ hF.out), (p12_ hF.out), (p13_ hF.out), (p14_ hF.out), (q15_ hF.out)⟩
    refine StepsF.cons (o := _) rfl (ws := []) (by kernel_rfl) (by decide) (fun d s b w hF hd hw K_ hK => ?_) ?_
    · have hB : Below W0.heap.size W0 w := (p0_ hF.out)
      dsimp only
      go_simp
      exact hK.out (ups s 6 (.slice p n c)) b _ ⟨hB, (p1_ hF.out), (fun _ => rfl), (p3_ hF.out), (p4_ hF.out), (p5_ hF.out), (p6_ hF.out), (p7_ hF.out), (p8_ hF.out), (p9_ hF.out), (p10_ hF.out), (p11_ hF.out), (p12_ hF.out), (p13_ hF.out), (p14_ hF.out), (q15_ hF.out)⟩
    refine StepsF.cons (o := _) rfl (ws := [1]) (by kernel_rfl) (by decide) (fun d s b w hF hd hw K_ hK => ?_) ?_
    · have hB : Below W0.heap.size W0 w := (p0_ hF.out)
      have e1 : s 6 = .slice p n c := (p2_ hF.out) (hw 1 (by decide))
      dsimp only
      go_simp
      go_at_call 11
      refine (FW.out _).mono ?_
      rintro e w1 ⟨rfl, hb⟩
      exact hK.out (ups (ups s 6 (.slice p n c)) 7 (.slice p m c)) b _ ⟨(Below.go hB hb), (p1_ hF.out), (fun _ => rfl), (fun _ => rfl), (p4_ hF.out), (fun h0 h1 => ((p5_ hF.out) h0 h1).later hb), (p6_ hF.out), (p7_ hF.out), (p8_ hF.out), (p9_ hF.out), (p10_ hF.out), (p11_ hF.out), (p12_ hF.out), (p13_ hF.out), (p14_ hF.out), (q15_ hF.out)⟩
    refine StepsF.cons (o := _) rfl (ws := [2]) (by kernel_rfl) (by decide) (fun d s b w hF hd hw K_ hK => ?_) ?_
    · have hB : Below W0.heap.size W0 w := (p0_ hF.out)
      have e2 : s 7 = .slice p m c := (p3_ hF.out) (hw 2 (by decide))
      dsimp only
      go_simp
      exact hK.out (ups (ups s 7 (.slice p m c)) 8 (.slice (some ⟨w.heap.size, 0, none⟩) 1 1)) (ups b 3 w.heap.size) _ ⟨(hB.alloc hB.size _), (p1_ hF.out), (p2_ hF.out), (fun _ => rfl), (fun _ => ⟨rfl, hB.size⟩), (fun _ _ => Own.newAt rfl), (p6_ hF.out), (p7_ hF.out), (p8_ hF.out), (p9_ hF.out), (p10_ hF.out), (p11_ hF.out), (p12_ hF.out), (p13_ hF.out), (p14_ hF.out), (q15_ hF.out)⟩
    refine StepsF.cons (o := _) rfl (ws := [0, 3, 2]) (by kernel_rfl) (by decide) (fun d s b w hF hd hw K_ hK => ?_) ?_
    · have hB : Below W0.heap.size W0 w := (p0_ hF.out)
      have e0 : s 5 = .agg (nums .u8 kf 32).toArray := (p1_ hF.out) (hw 0 (by decide))
      have e2 : s 7 = .slice p m c := (p3_ hF.out) (hw 2 (by decide))
      have e3 : s 8 = .slice (some ⟨(b 3), 0, none⟩) 1 1 := ((p4_ hF.out) (hw 3 (by decide))).1
      have le3 : W0.heap.size ≤ b 3 := ((p4_ hF.out) (hw 3 (by decide))).2
      dsimp only
      go_simp
      go_at_call 16
      refine (TG.out (b 3) _ (((p5_ hF.out) (hw 3 (by decide))) hd) (BY.out.later hB)).mono ?_
      rintro e w1 ⟨rfl, hb⟩
      exact hK.out (ups (ups (ups (ups s 5 (.agg (nums .u8 kf 32).toArray)) 7 (.slice p m c)) 8 (.slice (some ⟨(b 3), 0, none⟩) 1 1)) 9 (.agg (nums .u8 (byt T_) 16).toArray)) b _ ⟨(Below.go hB hb), (fun _ => rfl), (p2_ hF.out), (fun _ => rfl), (fun _ => ⟨rfl, le3⟩), (fun _ h => nomatch h), (fun _ => rfl), (p7_ hF.out), (p8_ hF.out), (p9_ hF.out), (p10_ hF.out), (p11_ hF.out), (p12_ hF.out), (p13_ hF.out), (p14_ hF.out), (q15_ hF.out)⟩
    refine StepsF.cons (o := _) rfl (ws := []) (by kernel_rfl) (by decide) (fun d s b w hF hd hw K_ hK => ?_) ?_
    · have hB : Below W0.heap.size W0 w := (p0_ hF.out)
      refine step_load (by simp [Region.wanted]) 31 _ rfl Y 0 rfl (nums .u8 kf 32) _ (HY.out.later hB).cell Try.underlying31 rfl (by kernel_rfl) ?_
      exact hK.out (ups s 10 (.agg (nums .u8 kf 32).toArray)) b _ ⟨hB, (p1_ hF.out), (p2_ hF.out), (p3_ hF.out), (p4_ hF.out), (p5_ hF.out), (p6_ hF.out), (fun _ => rfl), (p8_ hF.out), (p9_ hF.out), (p10_ hF.out), (p11_ hF.out), (p12_ hF.out), (p13_ hF.out), (p14_ hF.out), (q15_ hF.out)⟩
    refine StepsF.cons (o := _) rfl (ws := []) (by kernel_rfl) (by decide) (fun d s b w hF hd hw K_ hK => ?_) ?_
    · have hB : Below W0.heap.size W0 w := (p0_ hF.out)
      dsimp only
      go_simp
      exact hK.out (ups s 11 (.slice p n c)) b _ ⟨hB, (p1_ hF.out), (p2_ hF.out), (p3_ hF.out), (p4_ hF.out), (p5_ hF.out), (p6_ hF.out), (p7_ hF.out), (fun _ => rfl), (p9_ hF.out), (p10_ hF.out), (p11_ hF.out), (p12_ hF.out), (p13_ hF.out), (p14_ hF.out), (q15_ hF.out)⟩
    refine StepsF.cons (o := _) rfl (ws := [6, 4]) (by kernel_rfl) (by decide) (fun d s b w hF hd hw K_ hK => ?_) ?_
    · have hB : Below W0.heap.size W0 w := (p0_ hF.out)
      have e4 : s 9 = .agg (nums .u8 (byt T_) 16).toArray := (p6_ hF.out) (hw 4 (by decide))
      have e6 : s 11 = .slice p n c := (p8_ hF.out) (hw 6 (by decide))
      dsimp only
      go_simp
      go_at_call 11
      refine (FW.out _).mono ?_
      rintro e w1 ⟨rfl, hb⟩
      exact hK.out (ups (ups (ups s 9 (.agg (nums .u8 (byt T_) 16).toArray)) 11 (.slice p n c)) 12 (.slice p m c)) b _ ⟨(Below.go hB hb), (p1_ hF.out), (p2_ hF.out), (p3_ hF.out), (p4_ hF.out), (fun h0 h1 => ((p5_ hF.out) h0 h1).later hb), (fun _ => rfl), (p7_ hF.out), (fun _ => rfl), (fun _ => rfl), (p10_ hF.out), (p11_ hF.out), (p12_ hF.out), (p13_ hF.out), (p14_ hF.out), (q15_ hF.out)⟩
    refine StepsF.cons (o := _) rfl (ws := [5, 7, 7]) (by kernel_rfl) (by decide) (fun d s b w hF hd hw K_ hK => ?_) ?_
    · have hB : Below W0.heap.size W0 w := (p0_ hF.out)
      have e5 : s 10 = .agg (nums .u8 kf 32).toArray := (p7_ hF.out) (hw 5 (by decide))
      have e7 : s 12 = .slice p m c := (p9_ hF.out) (hw 7 (by decide))
      dsimp only
      go_simp
      go_at_call 17
      refine (RT.out _ (BY.out.later hB)).mono ?_
      rintro e w1 ⟨rfl, hb⟩
      exact hK.out (ups (ups (ups s 10 (.agg (nums .u8 kf 32).toArray)) 12 (.slice p m c)) 13 (.agg (nums .u8 (byt T_) 16).toArray)) b _ ⟨(Below.go hB hb), (p1_ hF.out), (p2_ hF.out), (p3_ hF.out), (p4_ hF.out), (fun h0 h1 => ((p5_ hF.out) h0 h1).later hb), (p6_ hF.out), (fun _ => rfl), (p8_ hF.out), (fun _ => rfl), (fun _ => rfl), (p11_ hF.out), (p12_ hF.out), (p13_ hF.out), (p14_ hF.out), (q15_ hF.out)⟩
    refine StepsF.cons (o := _) rfl (ws := [4, 8]) (by kernel_rfl) (by decide) (fun d s b w hF hd hw K_ hK => ?_) ?_
    · have hB : Below W0.heap.size W0 w := (p0_ hF.out)
      have e4 : s 9 = .agg (nums .u8 (byt T_) 16).toArray := (p6_ hF.out) (hw 4 (by decide))
      have e8 : s 13 = .agg (nums .u8 (byt T_) 16).toArray := (p10_ hF.out) (hw 8 (by decide))
      dsimp only
      have hq := EQ.out w
      go_simp
      exact hK.out (ups (ups (ups s 9 (.agg (nums .u8 (byt T_) 16).toArray)) 13 (.agg (nums .u8 (byt T_) 16).toArray)) 14 (.bool true)) b _ ⟨hB, (p1_ hF.out), (p2_ hF.out), (p3_ hF.out), (p4_ hF.out), (p5_ hF.out), (fun _ => rfl), (p7_ hF.out), (p8_ hF.out), (p9_ hF.out), (fun _ => rfl), (fun _ => rfl), (p12_ hF.out), (p13_ hF.out), (p14_ hF.out), (q15_ hF.out)⟩
    refine StepsF.cons (o := _) rfl (ws := [9, 8]) (by kernel_rfl) (by decide) (fun d s b w hF hd hw K_ hK => ?_) ?_
    · have hB : Below W0.heap.size W0 w := (p0_ hF.out)
      have e8 : s 13 = .agg (nums .u8 (byt T_) 16).toArray := (p10_ hF.out) (hw 8 (by decide))
      have e9 : s 14 = .bool true := (p11_ hF.out) (hw 9 (by decide))
      dsimp only
      go_simp
      exact hK.out (ups (ups (ups s 13 (.agg (nums .u8 (byt T_) 16).toArray)) 14 (.bool true)) 15 (.bool true)) b _ ⟨hB, (p1_ hF.out), (p2_ hF.out), (p3_ hF.out), (p4_ hF.out), (p5_ hF.out), (p6_ hF.out), (p7_ hF.out), (p8_ hF.out), (p9_ hF.out), (fun _ => rfl), (fun _ => rfl), (fun _ => rfl), (p13_ hF.out), (p14_ hF.out), (q15_ hF.out)⟩
    refine StepsF.cons (o := _) rfl (ws := [10, 10]) (by kernel_rfl) (by decide) (fun d s b w hF hd hw K_ hK => ?_) ?_
    · have hB : Below W0.heap.size W0 w := (p0_ hF.out)
      have e10 : s 15 = .bool true := (p12_ hF.out) (hw 10 (by decide))
      dsimp only
      go_simp
      go_at_call 15
      refine (works_any _).mono ?_
      rintro e w1 ⟨rfl, hb⟩
      exact hK.out (ups (ups s 15 (.bool true)) 16 (.bool true)) b _ ⟨(Below.go hB hb), (p1_ hF.out), (p2_ hF.out), (p3_ hF.out), (p4_ hF.out), (fun h0 h1 => ((p5_ hF.out) h0 h1).later hb), (p6_ hF.out), (p7_ hF.out), (p8_ hF.out), (p9_ hF.out), (p10_ hF.out), (p11_ hF.out), (fun _ => rfl), (fun _ => rfl), (p14_ hF.out), (q15_ hF.out)⟩
    refine StepsF.cons (o := _) rfl (ws := [10, 11]) (by kernel_rfl) (by decide) (fun d s b w hF hd hw K_ hK => ?_) ?_
    · have hB : Below W0.heap.size W0 w := (p0_ hF.out)
      have e10 : s 15 = .bool true := (p12_ hF.out) (hw 10 (by decide))
      have e11 : s 16 = .bool true := (p13_ hF.out) (hw 11 (by decide))
      dsimp only
      go_simp
      exact hK.out (ups (ups (ups s 15 (.bool true)) 16 (.bool true)) 17 (.bool true)) b _ ⟨hB, (p1_ hF.out), (p2_ hF.out), (p3_ hF.out), (p4_ hF.out), (p5_ hF.out), (p6_ hF.out), (p7_ hF.out), (p8_ hF.out), (p9_ hF.out), (p10_ hF.out), (p11_ hF.out), (fun _ => rfl), (fun _ => rfl), (fun _ => rfl), (q15_ hF.out)⟩
    refine StepsF.cons (o := _) rfl (ws := [12, 11, 0, 1, 2, 3, 4, 5, 6, 7, 8, 9, 10, 11, 12]) (by kernel_rfl) (by decide) (fun d s b w hF hd hw K_ hK => ?_) ?_
    · have hB : Below W0.heap.size W0 w := (p0_ hF.out)
      have e0 : s 5 = .agg (nums .u8 kf 32).toArray := (p1_ hF.out) (hw 0 (by decide))
      have e1 : s 6 = .slice p n c := (p2_ hF.out) (hw 1 (by decide))
      have e2 : s 7 = .slice p m c := (p3_ hF.out) (hw 2 (by decide))
      have e3 : s 8 = .slice (some ⟨(b 3), 0, none⟩) 1 1 := ((p4_ hF.out) (hw 3 (by decide))).1
      have le3 : W0.heap.size ≤ b 3 := ((p4_ hF.out) (hw 3 (by decide))).2
      have e4 : s 9 = .agg (nums .u8 (byt T_) 16).toArray := (p6_ hF.out) (hw 4 (by decide))
      have e5 : s 10 = .agg (nums .u8 kf 32).toArray := (p7_ hF.out) (hw 5 (by decide))
      have e6 : s 11 = .slice p n c := (p8_ hF.out) (hw 6 (by decide))
      have e7 : s 12 = .slice p m c := (p9_ hF.out) (hw 7 (by decide))
      have e8 : s 13 = .agg (nums .u8 (byt T_) 16).toArray := (p10_ hF.out) (hw 8 (by decide))
      have e9 : s 14 = .bool true := (p11_ hF.out) (hw 9 (by decide))
      have e10 : s 15 = .bool true := (p12_ hF.out) (hw 10 (by decide))
      have e11 : s 16 = .bool true := (p13_ hF.out) (hw 11 (by decide))
      have e12 : s 17 = .bool true := (p14_ hF.out) (hw 12 (by decide))
      dsimp only
      go_simp
      exact hK.out (ups (ups (ups (ups (ups (ups (ups (ups (ups (ups (ups (ups (ups (ups s 5 (.agg (nums .u8 kf 32).toArray)) 6 (.slice p n c)) 7 (.slice p m c)) 8 (.slice (some ⟨(b 3), 0, none⟩) 1 1)) 9 (.agg (nums .u8 (byt T_) 16).toArray)) 10 (.agg (nums .u8 kf 32).toArray)) 11 (.slice p n c)) 12 (.slice p m c)) 13 (.agg (nums .u8 (byt T_) 16).toArray)) 14 (.bool true)) 15 (.bool true)) 16 (.bool true)) 17 (.bool true)) 4 (.bool true)) b _ ⟨hB, (fun _ => rfl), (fun _ => rfl), (fun _ => rfl), (fun _ => ⟨rfl, le3⟩), (p5_ hF.out), (fun _ => rfl), (fun _ => rfl), (fun _ => rfl), (fun _ => rfl), (fun _ => rfl), (fun _ => rfl), (fun _ => rfl), (fun _ => rfl), (fun _ => rfl), (fun _ => rfl)⟩
    exact StepsF.nil
  intro d s b y2 hF hall
  replace hF := Lib.hid hF
  have hB : Below W0.heap.size W0 y2 := (p0_ hF.out)
  try dsimp only
  have e0 : s 5 = .agg (nums .u8 kf 32).toArray := (p1_ hF.out) (hall 0 (by decide))
  have e1 : s 6 = .slice p n c := (p2_ hF.out) (hall 1 (by decide))
  have e2 : s 7 = .slice p m c := (p3_ hF.out) (hall 2 (by decide))
  have e3 : s 8 = .slice (some ⟨(b 3), 0, none⟩) 1 1 := ((p4_ hF.out) (hall 3 (by decide))).1
  have le3 : W0.heap.size ≤ b 3 := ((p4_ hF.out) (hall 3 (by decide))).2
  have e4 : s 9 = .agg (nums .u8 (byt T_) 16).toArray := (p6_ hF.out) (hall 4 (by decide))
  have e5 : s 10 = .agg (nums .u8 kf 32).toArray := (p7_ hF.out) (hall 5 (by decide))
  have e6 : s 11 = .slice p n c := (p8_ hF.out) (hall 6 (by decide))
  have e7 : s 12 = .slice p m c := (p9_ hF.out) (hall 7 (by decide))
  have e8 : s 13 = .agg (nums .u8 (byt T_) 16).toArray := (p10_ hF.out) (hall 8 (by decide))
  have e9 : s 14 = .bool true := (p11_ hF.out) (hall 9 (by decide))
  have e10 : s 15 = .bool true := (p12_ hF.out) (hall 10 (by decide))
  have e11 : s 16 = .bool true := (p13_ hF.out) (hall 11 (by decide))
  have e12 : s 17 = .bool true := (p14_ hF.out) (hall 12 (by decide))
  have e13 : s 4 = .bool true := (q15_ hF.out) (hall 13 (by decide))
  rw [e0, e1, e2, e3, e4, e5, e6, e7, e8, e9, e10, e11, e12, e13]
  clear hall hF e0 e1 e2 e3 e4 e5 e6 e7 e8 e9 e10 e11 e12 e13
  obtain ⟨L_, hz⟩ : ∃ x, x = b 3 := ⟨_, rfl⟩
  rw [← hz] at le3 ⊢
  clear hz
  clear d s b
  go_wp2_with (fail)
  go_ret
  exact ⟨rfl, Below.go hB0 hB⟩
end Go.Proofs.Ytljngnemiaklhaa
