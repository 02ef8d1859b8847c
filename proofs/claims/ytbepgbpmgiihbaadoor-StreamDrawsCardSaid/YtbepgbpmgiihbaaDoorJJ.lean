/- StreamDraws: the walk. -/
import Derived.Test.YtbepgbpmgiihbaaDoorJI
import Derived.Lib.Hide
import Derived.Deep.Onto
import Derived.Deep.WholeRow
namespace Go.Proofs.YtbepgbpmgiihbaaDoor
set_option linter.unusedVariables false
set_option maxRecDepth 2000
set_option linter.unusedSimpArgs false
open Go.RowKit

set_option maxHeartbeats 4000000 in
theorem Draws_law (sd : Int) (f : Nat → Int) (hs : in64u sd) (hf : ∀ i, i < 4 → inI (f i)) (w : World) (hg : Has 0 0 GL w) :
    Calls Tryd.prog 3 #[.int .u64 sd, (.agg (nums .i64 f 4).toArray)] w fun e w' => e = .returned (.bool true) ∧ Below w.heap.size w w' := by
  have HG0 := Lib.hid hg
  have FA := Lib.hid (At_any sd (f 0) (f 1) (f 2) (f 3) hs (hf 0 (by decide)) (hf 1 (by decide)) (hf 2 (by decide)) (hf 3 (by decide)))
  have FR := Lib.hid (RAt_any sd (f 0) (f 1) (f 2) (f 3) hs (hf 0 (by decide)) (hf 1 (by decide)) (hf 2 (by decide)) (hf 3 (by decide)))
  generalize at10 sd (f 0) (f 1) (f 2) (f 3) = z at *
  clear hs hf hg
  go_enter Tryd.func3, Tryd.ntmps3
  go_upto_region 1 with fail
  obtain ⟨W0, hW⟩ : ∃ W0, W0 = (w.alloc (.cells (nums .i64 f 4).toArray 23)) := ⟨_, rfl⟩
  have hB0 : Below w.heap.size w W0 := hW ▸ (Below.al (Below.refl _ _))
  have HF : Hid (Own w.heap.size (nums .i64 f 4) W0) := Lib.hid (hW ▸ (show Own w.heap.size (nums .i64 f 4) (w.alloc (.cells (nums .i64 f 4).toArray 23)) from Own.newAt (by simp)))
  rw [← hW]
  clear hW
  obtain ⟨F, eF⟩ : ∃ X, X = w.heap.size := ⟨_, rfl⟩
  rw [← eF] at HF ⊢
  have Fw : w.heap.size ≤ F := by omega
  clear eF
  have HG := Lib.hid (HG0.out.later hB0)
  clear HG0
  refine wp_region_fun 25 (by kernel_rfl) (by kernel_rfl) rfl (fun s b => ⟨#[.int .u64 sd, (.agg (nums .i64 f 4).toArray), undef, .pointer (some ⟨F, 0, none⟩), s 4, s 5, s 6, s 7, s 8, s 9, s 10, s 11, s 12, s 13, s 14, s 15, s 16, s 17, s 18, s 19, s 20, s 21, s 22, s 23, s 24, s 25, s 26, s 27, s 28], []⟩) (fun d s b w => (Below W0.heap.size W0 w) ∧ (d 0 = true → s 5 = .int .u64 sd) ∧ (d 1 = true → s 6 = .pointer (some ⟨F, 0, none⟩)) ∧ (d 2 = true → s 7 = .int .i64 (f 0)) ∧ (d 3 = true → s 8 = .pointer (some ⟨F, 1, none⟩)) ∧ (d 4 = true → s 9 = .int .i64 (f 1)) ∧ (d 5 = true → s 10 = .pointer (some ⟨F, 2, none⟩)) ∧ (d 6 = true → s 11 = .int .i64 (f 2)) ∧ (d 7 = true → s 12 = .pointer (some ⟨F, 3, none⟩)) ∧ (d 8 = true → s 13 = .int .i64 (f 3)) ∧ (d 9 = true → s 14 = .int .u32 z) ∧ (d 10 = true → s 15 = .int .u64 sd) ∧ (d 11 = true → s 16 = .pointer (some ⟨F, 0, none⟩)) ∧ (d 12 = true → s 17 = .int .i64 (f 0)) ∧ (d 13 = true → s 18 = .pointer (some ⟨F, 1, none⟩)) ∧ (d 14 = true → s 19 = .int .i64 (f 1)) ∧ (d 15 = true → s 20 = .pointer (some ⟨F, 2, none⟩)) ∧ (d 16 = true → s 21 = .int .i64 (f 2)) ∧ (d 17 = true → s 22 = .pointer (some ⟨F, 3, none⟩)) ∧ (d 18 = true → s 23 = .int .i64 (f 3)) ∧ (d 19 = true → s 24 = .int .u32 z) ∧ (d 20 = true → s 25 = .bool true) ∧ (d 21 = true → s 26 = .bool true) ∧ (d 22 = true → s 27 = .bool true) ∧ (d 23 = true → s 28 = .bool true) ∧ (d 24 = true → s 4 = .bool true)) rfl ?h0y1 (?sty1 : StepsF _ _ _ _ 25 _ _ [0, 1, 2, 3, 4, 5, 6, 7, 8, 9, 10, 11, 12, 13, 14, 15, 16, 17, 18, 19, 20, 21, 22, 23, 24]) ?dny1
  case h0y1 => exact ⟨Below.drew (Below.refl _ _), (fun h => nomatch h), (fun h => nomatch h), (fun h => nomatch h), (fun h => nomatch h), (fun h => nomatch h), (fun h => nomatch h), (fun h => nomatch h), (fun h => nomatch h), (fun h => nomatch h), (fun h => nomatch h), (fun h => nomatch h), (fun h => nomatch h), (fun h => nomatch h), (fun h => nomatch h), (fun h => nomatch h), (fun h => nomatch h), (fun h => nomatch h), (fun h => nomatch h), (fun h => nomatch h), (fun h => nomatch h), (fun h => nomatch h), (fun h => nomatch h), (fun h => nomatch h), (fun h => nomatch h), (fun h => nomatch h)⟩
  case sty1 =>
    refine StepsF.cons (o := _) rfl (ws := []) (by kernel_rfl) (by decide) (fun d s b w hF hd hw K_ hK => ?_) ?_
    · have hB : Below W0.heap.size W0 w := (p0_ hF.out)
      dsimp only
      go_simp
      exact hK.out (ups s 5 (.int .u64 sd)) b _ ⟨hB, (fun _ => rfl), (p2_ hF.out), (p3_ hF.out), (p4_ hF.out), (p5_ hF.out), (p6_ hF.out), (p7_ hF.out), (p8_ hF.out), (p9_ hF.out), (p10_ hF.out), (p11_ hF.out), (p12_ hF.out), (p13_ hF.out), (p14_ hF.out), (p15_ hF.out), (p16_ hF.out), (p17_ hF.out), (p18_ hF.out), (p19_ hF.out), (p20_ hF.out), (p21_ hF.out), (p22_ hF.out), (p23_ hF.out), (p24_ hF.out), (q25_ hF.out)⟩
    refine StepsF.cons (o := _) rfl (ws := []) (by kernel_rfl) (by decide) (fun d s b w hF hd hw K_ hK => ?_) ?_
    · have hB : Below W0.heap.size W0 w := (p0_ hF.out)
      dsimp only
      go_simp
      exact hK.out (ups s 6 (.pointer (some ⟨F, 0, none⟩))) b _ ⟨hB, (p1_ hF.out), (fun _ => rfl), (p3_ hF.out), (p4_ hF.out), (p5_ hF.out), (p6_ hF.out), (p7_ hF.out), (p8_ hF.out), (p9_ hF.out), (p10_ hF.out), (p11_ hF.out), (p12_ hF.out), (p13_ hF.out), (p14_ hF.out), (p15_ hF.out), (p16_ hF.out), (p17_ hF.out), (p18_ hF.out), (p19_ hF.out), (p20_ hF.out), (p21_ hF.out), (p22_ hF.out), (p23_ hF.out), (p24_ hF.out), (q25_ hF.out)⟩
    refine StepsF.cons (o := _) rfl (ws := [1]) (by kernel_rfl) (by decide) (fun d s b w hF hd hw K_ hK => ?_) ?_
    · have hB : Below W0.heap.size W0 w := (p0_ hF.out)
      have e1 : s 6 = .pointer (some ⟨F, 0, none⟩) := (p2_ hF.out) (hw 1 (by decide))
      dsimp only
      have oF := HF.out.later hB
      have f0 := oF.at 0 _ (nums_at .i64 f (show 0 < 4 by decide))
      clear oF
      go_simp
      exact hK.out (ups (ups s 6 (.pointer (some ⟨F, 0, none⟩))) 7 (.int .i64 (f 0))) b _ ⟨hB, (p1_ hF.out), (fun _ => rfl), (fun _ => rfl), (p4_ hF.out), (p5_ hF.out), (p6_ hF.out), (p7_ hF.out), (p8_ hF.out), (p9_ hF.out), (p10_ hF.out), (p11_ hF.out), (p12_ hF.out), (p13_ hF.out), (p14_ hF.out), (p15_ hF.out), (p16_ hF.out), (p17_ hF.out), (p18_ hF.out), (p19_ hF.out), (p20_ hF.out), (p21_ hF.out), (p22_ hF.out), (p23_ hF.out), (p24_ hF.out), (q25_ hF.out)⟩
    refine StepsF.cons (o := _) rfl (ws := []) (by kernel_rfl) (by decide) (fun d s b w hF hd hw K_ hK => ?_) ?_
    · have hB : Below W0.heap.size W0 w := (p0_ hF.out)
      dsimp only
      go_simp
      exact hK.out (ups s 8 (.pointer (some ⟨F, 1, none⟩))) b _ ⟨hB, (p1_ hF.out), (p2_ hF.out), (p3_ hF.out), (fun _ => rfl), (p5_ hF.out), (p6_ hF.out), (p7_ hF.out), (p8_ hF.out), (p9_ hF.out), (p10_ hF.out), (p11_ hF.out), (p12_ hF.out), (p13_ hF.out), (p14_ hF.out), (p15_ hF.out), (p16_ hF.out), (p17_ hF.out), (p18_ hF.out), (p19_ hF.out), (p20_ hF.out), (p21_ hF.out), (p22_ hF.out), (p23_ hF.out), (p24_ hF.out), (q25_ hF.out)⟩
    refine StepsF.cons (o := _) rfl (ws := [3]) (by kernel_rfl) (by decide) (fun d s b w hF hd hw K_ hK => ?_) ?_
    · have hB : Below W0.heap.size W0 w := (p0_ hF.out)
      have e3 : s 8 = .pointer (some ⟨F, 1, none⟩) := (p4_ hF.out) (hw 3 (by decide))
      dsimp only
      have oF := HF.out.later hB
      have f1 := oF.at 1 _ (nums_at .i64 f (show 1 < 4 by decide))
      clear oF
      go_simp
      exact hK.out (ups (ups s 8 (.pointer (some ⟨F, 1, none⟩))) 9 (.int .i64 (f 1))) b _ ⟨hB, (p1_ hF.out), (p2_ hF.out), (p3_ hF.out), (fun _ => rfl), (fun _ => rfl), (p6_ hF.out), (p7_ hF.out), (p8_ hF.out), (p9_ hF.out), (p10_ hF.out), (p11_ hF.out), (p12_ hF.out), (p13_ hF.out), (p14_ hF.out), (p15_ hF.out), (p16_ hF.out), (p17_ hF.out), (p18_ hF.out), (p19_ hF.out), (p20_ hF.out), (p21_ hF.out), (p22_ hF.out), (p23_ hF.out), (p24_ hF.out), (q25_ hF.out)⟩
    refine StepsF.cons (o := _) rfl (ws := []) (by kernel_rfl) (by decide) (fun d s b w hF hd hw K_ hK => ?_) ?_
    · have hB : Below W0.heap.size W0 w := (p0_ hF.out)
      dsimp only
      go_simp
      exact hK.out (ups s 10 (.pointer (some ⟨F, 2, none⟩))) b _ ⟨hB, (p1_ hF.out), (p2_ hF.out), (p3_ hF.out), (p4_ hF.out), (p5_ hF.out), (fun _ => rfl), (p7_ hF.out), (p8_ hF.out), (p9_ hF.out), (p10_ hF.out), (p11_ hF.out), (p12_ hF.out), (p13_ hF.out), (p14_ hF.out), (p15_ hF.out), (p16_ hF.out), (p17_ hF.out), (p18_ hF.out), (p19_ hF.out), (p20_ hF.out), (p21_ hF.out), (p22_ hF.out), (p23_ hF.out), (p24_ hF.out), (q25_ hF.out)⟩
    refine StepsF.cons (o := _) rfl (ws := [5]) (by kernel_rfl) (by decide) (fun d s b w hF hd hw K_ hK => ?_) ?_
    · have hB : Below W0.heap.size W0 w := (p0_ hF.out)
      have e5 : s 10 = .pointer (some ⟨F, 2, none⟩) := (p6_ hF.out) (hw 5 (by decide))
      dsimp only
      have oF := HF.out.later hB
      have f2 := oF.at 2 _ (nums_at .i64 f (show 2 < 4 by decide))
      clear oF
      go_simp
      exact hK.out (ups (ups s 10 (.pointer (some ⟨F, 2, none⟩))) 11 (.int .i64 (f 2))) b _ ⟨hB, (p1_ hF.out), (p2_ hF.out), (p3_ hF.out), (p4_ hF.out), (p5_ hF.out), (fun _ => rfl), (fun _ => rfl), (p8_ hF.out), (p9_ hF.out), (p10_ hF.out), (p11_ hF.out), (p12_ hF.out), (p13_ hF.out), (p14_ hF.out), (p15_ hF.out), (p16_ hF.out), (p17_ hF.out), (p18_ hF.out), (p19_ hF.out), (p20_ hF.out), (p21_ hF.out), (p22_ hF.out), (p23_ hF.out), (p24_ hF.out), (q25_ hF.out)⟩
    refine StepsF.cons (o := _) rfl (ws := []) (by kernel_rfl) (by decide) (fun d s b w hF hd hw K_ hK => ?_) ?_
    · have hB : Below W0.heap.size W0 w := (p0_ hF.out)
      dsimp only
      go_simp
      exact hK.out (ups s 12 (.pointer (some ⟨F, 3, none⟩))) b _ ⟨hB, (p1_ hF.out), (p2_ hF.out), (p3_ hF.out), (p4_ hF.out), (p5_ hF.out), (p6_ hF.out), (p7_ hF.out), (fun _ => rfl), (p9_ hF.out), (p10_ hF.out), (p11_ hF.out), (p12_ hF.out), (p13_ hF.out), (p14_ hF.out), (p15_ hF.out), (p16_ hF.out), (p17_ hF.out), (p18_ hF.out), (p19_ hF.out), (p20_ hF.out), (p21_ hF.out), (p22_ hF.out), (p23_ hF.out), (p24_ hF.out), (q25_ hF.out)⟩
    refine StepsF.cons (o := _) rfl (ws := [7]) (by kernel_rfl) (by decide) (fun d s b w hF hd hw K_ hK => ?_) ?_
    · have hB : Below W0.heap.size W0 w := (p0_ hF.out)
      have e7 : s 12 = .pointer (some ⟨F, 3, none⟩) := (p8_ hF.out) (hw 7 (by decide))
      dsimp only
      have oF := HF.out.later hB
      have f3 := oF.at 3 _ (nums_at .i64 f (show 3 < 4 by decide))
      clear oF
      go_simp
      exact hK.out (ups (ups s 12 (.pointer (some ⟨F, 3, none⟩))) 13 (.int .i64 (f 3))) b _ ⟨hB, (p1_ hF.out), (p2_ hF.out), (p3_ hF.out), (p4_ hF.out), (p5_ hF.out), (p6_ hF.out), (p7_ hF.out), (fun _ => rfl), (fun _ => rfl), (p10_ hF.out), (p11_ hF.out), (p12_ hF.out), (p13_ hF.out), (p14_ hF.out), (p15_ hF.out), (p16_ hF.out), (p17_ hF.out), (p18_ hF.out), (p19_ hF.out), (p20_ hF.out), (p21_ hF.out), (p22_ hF.out), (p23_ hF.out), (p24_ hF.out), (q25_ hF.out)⟩
    refine StepsF.cons (o := _) rfl (ws := [0, 2, 4, 6, 8]) (by kernel_rfl) (by decide) (fun d s b w hF hd hw K_ hK => ?_) ?_
    · have hB : Below W0.heap.size W0 w := (p0_ hF.out)
      have e0 : s 5 = .int .u64 sd := (p1_ hF.out) (hw 0 (by decide))
      have e2 : s 7 = .int .i64 (f 0) := (p3_ hF.out) (hw 2 (by decide))
      have e4 : s 9 = .int .i64 (f 1) := (p5_ hF.out) (hw 4 (by decide))
      have e6 : s 11 = .int .i64 (f 2) := (p7_ hF.out) (hw 6 (by decide))
      have e8 : s 13 = .int .i64 (f 3) := (p9_ hF.out) (hw 8 (by decide))
      dsimp only
      go_simp
      go_at_call 6
      refine (FA.out _ (HG.out.later hB)).mono ?_
      rintro e w1 ⟨rfl, hb⟩
      exact hK.out (ups (ups (ups (ups (ups (ups s 5 (.int .u64 sd)) 7 (.int .i64 (f 0))) 9 (.int .i64 (f 1))) 11 (.int .i64 (f 2))) 13 (.int .i64 (f 3))) 14 (.int .u32 z)) b _ ⟨(Below.go hB hb), (fun _ => rfl), (p2_ hF.out), (fun _ => rfl), (p4_ hF.out), (fun _ => rfl), (p6_ hF.out), (fun _ => rfl), (p8_ hF.out), (fun _ => rfl), (fun _ => rfl), (p11_ hF.out), (p12_ hF.out), (p13_ hF.out), (p14_ hF.out), (p15_ hF.out), (p16_ hF.out), (p17_ hF.out), (p18_ hF.out), (p19_ hF.out), (p20_ hF.out), (p21_ hF.out), (p22_ hF.out), (p23_ hF.out), (p24_ hF.out), (q25_ hF.out)⟩
    refine StepsF.cons (o := _) rfl (ws := []) (by kernel_rfl) (by decide) (fun d s b w hF hd hw K_ hK => ?_) ?_
    · have hB : Below W0.heap.size W0 w := (p0_ hF.out)
      dsimp only
      go_simp
      exact hK.out (ups s 15 (.int .u64 sd)) b _ ⟨hB, (p1_ hF.out), (p2_ hF.out), (p3_ hF.out), (p4_ hF.out), (p5_ hF.out), (p6_ hF.out), (p7_ hF.out), (p8_ hF.out), (p9_ hF.out), (p10_ hF.out), (fun _ => rfl), (p12_ hF.out), (p13_ hF.out), (p14_ hF.out), (p15_ hF.out), (p16_ hF.out), (p17_ hF.out), (p18_ hF.out), (p19_ hF.out), (p20_ hF.out), (p21_ hF.out), (p22_ hF.out), (p23_ hF.out), (p24_ hF.out), (q25_ hF.out)⟩
    refine StepsF.cons (o := _) rfl (ws := []) (by kernel_rfl) (by decide) (fun d s b w hF hd hw K_ hK => ?_) ?_
    · have hB : Below W0.heap.size W0 w := (p0_ hF.out)
      dsimp only
      go_simp
      exact hK.out (ups s 16 (.pointer (some ⟨F, 0, none⟩))) b _ ⟨hB, (p1_ hF.out), (p2_ hF.out), (p3_ hF.out), (p4_ hF.out), (p5_ hF.out), (p6_ hF.out), (p7_ hF.out), (p8_ hF.out), (p9_ hF.out), (p10_ hF.out), (p11_ hF.out), (fun _ => rfl), (p13_ hF.out), (p14_ hF.out), (p15_ hF.out), (p16_ hF.out), (p17_ hF.out), (p18_ hF.out), (p19_ hF.out), (p20_ hF.out), (p21_ hF.out), (p22_ hF.out), (p23_ hF.out), (p24_ hF.out), (q25_ hF.out)⟩
    refine StepsF.cons (o := _) rfl (ws := [11]) (by kernel_rfl) (by decide) (fun d s b w hF hd hw K_ hK => ?_) ?_
    · have hB : Below W0.heap.size W0 w := (p0_ hF.out)
      have e11 : s 16 = .pointer (some ⟨F, 0, none⟩) := (p12_ hF.out) (hw 11 (by decide))
      dsimp only
      have oF := HF.out.later hB
      have f0 := oF.at 0 _ (nums_at .i64 f (show 0 < 4 by decide))
      clear oF
      go_simp
      exact hK.out (ups (ups s 16 (.pointer (some ⟨F, 0, none⟩))) 17 (.int .i64 (f 0))) b _ ⟨hB, (p1_ hF.out), (p2_ hF.out), (p3_ hF.out), (p4_ hF.out), (p5_ hF.out), (p6_ hF.out), (p7_ hF.out), (p8_ hF.out), (p9_ hF.out), (p10_ hF.out), (p11_ hF.out), (fun _ => rfl), (fun _ => rfl), (p14_ hF.out), (p15_ hF.out), (p16_ hF.out), (p17_ hF.out), (p18_ hF.out), (p19_ hF.out), (p20_ hF.out), (p21_ hF.out), (p22_ hF.out), (p23_ hF.out), (p24_ hF.out), (q25_ hF.out)⟩
    refine StepsF.cons (o := _) rfl (ws := []) (by kernel_rfl) (by decide) (fun d s b w hF hd hw K_ hK => ?_) ?_
    · have hB : Below W0.heap.size W0 w := (p0_ hF.out)
      dsimp only
      go_simp
      exact hK.out (ups s 18 (.pointer (some ⟨F, 1, none⟩))) b _ ⟨hB, (p1_ hF.out), (p2_ hF.out), (p3_ hF.out), (p4_ hF.out), (p5_ hF.out), (p6_ hF.out), (p7_ hF.out), (p8_ hF.out), (p9_ hF.out), (p10_ hF.out), (p11_ hF.out), (p12_ hF.out), (p13_ hF.out), (fun _ => rfl), (p15_ hF.out), (p16_ hF.out), (p17_ hF.out), (p18_ hF.out), (p19_ hF.out), (p20_ hF.out), (p21_ hF.out), (p22_ hF.out), (p23_ hF.out), (p24_ hF.out), (q25_ hF.out)⟩
    refine StepsF.cons (o := _) rfl (ws := [13]) (by kernel_rfl) (by decide) (fun d s b w hF hd hw K_ hK => ?_) ?_
    · have hB : Below W0.heap.size W0 w := (p0_ hF.out)
      have e13 : s 18 = .pointer (some ⟨F, 1, none⟩) := (p14_ hF.out) (hw 13 (by decide))
      dsimp only
      have oF := HF.out.later hB
      have f1 := oF.at 1 _ (nums_at .i64 f (show 1 < 4 by decide))
      clear oF
      go_simp
      exact hK.out (ups (ups s 18 (.pointer (some ⟨F, 1, none⟩))) 19 (.int .i64 (f 1))) b _ ⟨hB, (p1_ hF.out), (p2_ hF.out), (p3_ hF.out), (p4_ hF.out), (p5_ hF.out), (p6_ hF.out), (p7_ hF.out), (p8_ hF.out), (p9_ hF.out), (p10_ hF.out), (p11_ hF.out), (p12_ hF.out), (p13_ hF.out), (fun _ => rfl), (fun _ => rfl), (p16_ hF.out), (p17_ hF.out), (p18_ hF.out), (p19_ hF.out), (p20_ hF.out), (p21_ hF.out), (p22_ hF.out), (p23_ hF.out), (p24_ hF.out), (q25_ hF.out)⟩
    refine StepsF.cons (o := _) rfl (ws := []) (by kernel_rfl) (by decide) (fun d s b w hF hd hw K_ hK => ?_) ?_
    · have hB : Below W0.heap.size W0 w := (p0_ hF.out)
      dsimp only
      go_simp
      exact hK.out (ups s 20 (.pointer (some ⟨F, 2, none⟩))) b _ ⟨hB, (p1_ hF.out), (p2_ hF.out), (p3_ hF.out), (p4_ hF.out), (p5_ hF.out), (p6_ hF.out), (p7_ hF.out), (p8_ hF.out), (p9_ hF.out), (p10_ hF.out), (p11_ hF.out), (p12_ hF.out), (p13_ hF.out), (p14_ hF.out), (p15_ hF.out), (fun _ => rfl), (p17_ hF.out), (p18_ hF.out), (p19_ hF.out), (p20_ hF.out), (p21_ hF.out), (p22_ hF.out), (p23_ hF.out), (p24_ hF.out), (q25_ hF.out)⟩
    refine StepsF.cons (o := _) rfl (ws := [15]) (by kernel_rfl) (by decide) (fun d s b w hF hd hw K_ hK => ?_) ?_
    · have hB : Below W0.heap.size W0 w := (p0_ hF.out)
      have e15 : s 20 = .pointer (some ⟨F, 2, none⟩) := (p16_ hF.out) (hw 15 (by decide))
      dsimp only
      have oF := HF.out.later hB
      have f2 := oF.at 2 _ (nums_at .i64 f (show 2 < 4 by decide))
      clear oF
      go_simp
      exact hK.out (ups (ups s 20 (.pointer (some ⟨F, 2, none⟩))) 21 (.int .i64 (f 2))) b _ ⟨hB, (p1_ hF.out), (p2_ hF.out), (p3_ hF.out), (p4_ hF.out), (p5_ hF.out), (p6_ hF.out), (p7_ hF.out), (p8_ hF.out), (p9_ hF.out), (p10_ hF.out), (p11_ hF.out), (p12_ hF.out), (p13_ hF.out), (p14_ hF.out), (p15_ hF.out), (fun _ => rfl), (fun _ => rfl), (p18_ hF.out), (p19_ hF.out), (p20_ hF.out), (p21_ hF.out), (p22_ hF.out), (p23_ hF.out), (p24_ hF.out), (q25_ hF.out)⟩
    refine StepsF.cons (o := _) rfl (ws := []) (by kernel_rfl) (by decide) (fun d s b w hF hd hw K_ hK => ?_) ?_
    · have hB : Below W0.heap.size W0 w := (p0_ hF.out)
      dsimp only
      go_simp
      exact hK.out (ups s 22 (.pointer (some ⟨F, 3, none⟩))) b _ ⟨hB, (p1_ hF.out), (p2_ hF.out), (p3_ hF.out), (p4_ hF.out), (p5_ hF.out), (p6_ hF.out), (p7_ hF.out), (p8_ hF.out), (p9_ hF.out), (p10_ hF.out), (p11_ hF.out), (p12_ hF.out), (p13_ hF.out), (p14_ hF.out), (p15_ hF.out), (p16_ hF.out), (p17_ hF.out), (fun _ => rfl), (p19_ hF.out), (p20_ hF.out), (p21_ hF.out), (p22_ hF.out), (p23_ hF.out), (p24_ hF.out), (q25_ hF.out)⟩
    refine StepsF.cons (o := _) rfl (ws := [17]) (by kernel_rfl) (by decide) (fun d s b w hF hd hw K_ hK => ?_) ?_
    · have hB : Below W0.heap.size W0 w := (p0_ hF.out)
      have e17 : s 22 = .pointer (some ⟨F, 3, none⟩) := (p18_ hF.out) (hw 17 (by decide))
      dsimp only
      have oF := HF.out.later hB
      have f3 := oF.at 3 _ (nums_at .i64 f (show 3 < 4 by decide))
      clear oF
      go_simp
      exact hK.out (ups (ups s 22 (.pointer (some ⟨F, 3, none⟩))) 23 (.int .i64 (f 3))) b _ ⟨hB, (p1_ hF.out), (p2_ hF.out), (p3_ hF.out), (p4_ hF.out), (p5_ hF.out), (p6_ hF.out), (p7_ hF.out), (p8_ hF.out), (p9_ hF.out), (p10_ hF.out), (p11_ hF.out), (p12_ hF.out), (p13_ hF.out), (p14_ hF.out), (p15_ hF.out), (p16_ hF.out), (p17_ hF.out), (fun _ => rfl), (fun _ => rfl), (p20_ hF.out), (p21_ hF.out), (p22_ hF.out), (p23_ hF.out), (p24_ hF.out), (q25_ hF.out)⟩
    refine StepsF.cons (o := _) rfl (ws := [10, 12, 14, 16, 18, 9]) (by kernel_rfl) (by decide) (fun d s b w hF hd hw K_ hK => ?_) ?_
    · have hB : Below W0.heap.size W0 w := (p0_ hF.out)
      have e9 : s 14 = .int .u32 z := (p10_ hF.out) (hw 9 (by decide))
      have e10 : s 15 = .int .u64 sd := (p11_ hF.out) (hw 10 (by decide))
      have e12 : s 17 = .int .i64 (f 0) := (p13_ hF.out) (hw 12 (by decide))
      have e14 : s 19 = .int .i64 (f 1) := (p15_ hF.out) (hw 14 (by decide))
      have e16 : s 21 = .int .i64 (f 2) := (p17_ hF.out) (hw 16 (by decide))
      have e18 : s 23 = .int .i64 (f 3) := (p19_ hF.out) (hw 18 (by decide))
      dsimp only
      go_simp
      go_at_call 7
      refine (FR.out _).mono ?_
      rintro e w1 ⟨rfl, hb⟩
      exact hK.out (ups (ups (ups (ups (ups (ups (ups s 14 (.int .u32 z)) 15 (.int .u64 sd)) 17 (.int .i64 (f 0))) 19 (.int .i64 (f 1))) 21 (.int .i64 (f 2))) 23 (.int .i64 (f 3))) 24 (.int .u32 z)) b _ ⟨(Below.go hB hb), (p1_ hF.out), (p2_ hF.out), (p3_ hF.out), (p4_ hF.out), (p5_ hF.out), (p6_ hF.out), (p7_ hF.out), (p8_ hF.out), (p9_ hF.out), (fun _ => rfl), (fun _ => rfl), (p12_ hF.out), (fun _ => rfl), (p14_ hF.out), (fun _ => rfl), (p16_ hF.out), (fun _ => rfl), (p18_ hF.out), (fun _ => rfl), (fun _ => rfl), (p21_ hF.out), (p22_ hF.out), (p23_ hF.out), (p24_ hF.out), (q25_ hF.out)⟩
    refine StepsF.cons (o := _) rfl (ws := [9, 19]) (by kernel_rfl) (by decide) (fun d s b w hF hd hw K_ hK => ?_) ?_
    · have hB : Below W0.heap.size W0 w := (p0_ hF.out)
      have e9 : s 14 = .int .u32 z := (p10_ hF.out) (hw 9 (by decide))
      have e19 : s 24 = .int .u32 z := (p20_ hF.out) (hw 19 (by decide))
      dsimp only
      go_simp
      exact hK.out (ups (ups (ups s 14 (.int .u32 z)) 24 (.int .u32 z)) 25 (.bool true)) b _ ⟨hB, (p1_ hF.out), (p2_ hF.out), (p3_ hF.out), (p4_ hF.out), (p5_ hF.out), (p6_ hF.out), (p7_ hF.out), (p8_ hF.out), (p9_ hF.out), (fun _ => rfl), (p11_ hF.out), (p12_ hF.out), (p13_ hF.out), (p14_ hF.out), (p15_ hF.out), (p16_ hF.out), (p17_ hF.out), (p18_ hF.out), (p19_ hF.out), (fun _ => rfl), (fun _ => rfl), (p22_ hF.out), (p23_ hF.out), (p24_ hF.out), (q25_ hF.out)⟩
    refine StepsF.cons (o := _) rfl (ws := [20, 19]) (by kernel_rfl) (by decide) (fun d s b w hF hd hw K_ hK => ?_) ?_
    · have hB : Below W0.heap.size W0 w := (p0_ hF.out)
      have e19 : s 24 = .int .u32 z := (p20_ hF.out) (hw 19 (by decide))
      have e20 : s 25 = .bool true := (p21_ hF.out) (hw 20 (by decide))
      dsimp only
      go_simp
      exact hK.out (ups (ups (ups s 24 (.int .u32 z)) 25 (.bool true)) 26 (.bool true)) b _ ⟨hB, (p1_ hF.out), (p2_ hF.out), (p3_ hF.out), (p4_ hF.out), (p5_ hF.out), (p6_ hF.out), (p7_ hF.out), (p8_ hF.out), (p9_ hF.out), (p10_ hF.out), (p11_ hF.out), (p12_ hF.out), (p13_ hF.out), (p14_ hF.out), (p15_ hF.out), (p16_ hF.out), (p17_ hF.out), (p18_ hF.out), (p19_ hF.out), (fun _ => rfl), (fun _ => rfl), (fun _ => rfl), (p23_ hF.out), (p24_ hF.out), (q25_ hF.out)⟩
    refine StepsF.cons (o := _) rfl (ws := [21, 21]) (by kernel_rfl) (by decide) (fun d s b w hF hd hw K_ hK => ?_) ?_
    · have hB : Below W0.heap.size W0 w := (p0_ hF.out)
      have e21 : s 26 = .bool true := (p22_ hF.out) (hw 21 (by decide))
      dsimp only
      go_simp
      go_at_call 8
      refine (works10_any _).mono ?_
      rintro e w1 ⟨rfl, hb⟩
      exact hK.out (ups (ups s 26 (.bool true)) 27 (.bool true)) b _ ⟨(Below.go hB hb), (p1_ hF.out), (p2_ hF.out), (p3_ hF.out), (p4_ hF.out), (p5_ hF.out), (p6_ hF.out), (p7_ hF.out), (p8_ hF.out), (p9_ hF.out), (p10_ hF.out), (p11_ hF.out), (p12_ hF.out), (p13_ hF.out), (p14_ hF.out), (p15_ hF.out), (p16_ hF.out), (p17_ hF.out), (p18_ hF.out), (p19_ hF.out), (p20_ hF.out), (p21_ hF.out), (fun _ => rfl), (fun _ => rfl), (p24_ hF.out), (q25_ hF.out)⟩
    refine StepsF.cons (o := _) rfl (ws := [21, 22]) (by kernel_rfl) (by decide) (fun d s b w hF hd hw K_ hK => ?_) ?_
    · have hB : Below W0.heap.size W0 w := (p0_ hF.out)
      have e21 : s 26 = .bool true := (p22_ hF.out) (hw 21 (by decide))
      have e22 : s 27 = .bool true := (p23_ hF.out) (hw 22 (by decide))
      dsimp only
      go_simp
      exact hK.out (ups (ups (ups s 26 (.bool true)) 27 (.bool true)) 28 (.bool true)) b _ ⟨hB, (p1_ hF.out), (p2_ hF.out), (p3_ hF.out), (p4_ hF.out), (p5_ hF.out), (p6_ hF.out), (p7_ hF.out), (p8_ hF.out), (p9_ hF.out), (p10_ hF.out), (p11_ hF.out), (p12_ hF.out), (p13_ hF.out), (p14_ hF.out), (p15_ hF.out), (p16_ hF.out), (p17_ hF.out), (p18_ hF.out), (p19_ hF.out), (p20_ hF.out), (p21_ hF.out), (fun _ => rfl), (fun _ => rfl), (fun _ => rfl), (q25_ hF.out)⟩
    refine StepsF.cons (o := _) rfl (ws := [23, 22, 0, 1, 2, 3, 4, 5, 6, 7, 8, 9, 10, 11, 12, 13, 14, 15, 16, 17, 18, 19, 20, 21, 22, 23]) (by kernel_rfl) (by decide) (fun d s b w hF hd hw K_ hK => ?_) ?_
    · have hB : Below W0.heap.size W0 w := (p0_ hF.out)
      have e0 : s 5 = .int .u64 sd := (p1_ hF.out) (hw 0 (by decide))
      have e1 : s 6 = .pointer (some ⟨F, 0, none⟩) := (p2_ hF.out) (hw 1 (by decide))
      have e2 : s 7 = .int .i64 (f 0) := (p3_ hF.out) (hw 2 (by decide))
      have e3 : s 8 = .pointer (some ⟨F, 1, none⟩) := (p4_ hF.out) (hw 3 (by decide))
      have e4 : s 9 = .int .i64 (f 1) := (p5_ hF.out) (hw 4 (by decide))
      have e5 : s 10 = .pointer (some ⟨F, 2, none⟩) := (p6_ hF.out) (hw 5 (by decide))
      have e6 : s 11 = .int .i64 (f 2) := (p7_ hF.out) (hw 6 (by decide))
      have e7 : s 12 = .pointer (some ⟨F, 3, none⟩) := (p8_ hF.out) (hw 7 (by decide))
      have e8 : s 13 = .int .i64 (f 3) := (p9_ hF.out) (hw 8 (by decide))
      have e9 : s 14 = .int .u32 z := (p10_ hF.out) (hw 9 (by decide))
      have e10 : s 15 = .int .u64 sd := (p11_ hF.out) (hw 10 (by decide))
      have e11 : s 16 = .pointer (some ⟨F, 0, none⟩) := (p12_ hF.out) (hw 11 (by decide))
      have e12 : s 17 = .int .i64 (f 0) := (p13_ hF.out) (hw 12 (by decide))
      have e13 : s 18 = .pointer (some ⟨F, 1, none⟩) := (p14_ hF.out) (hw 13 (by decide))
      have e14 : s 19 = .int .i64 (f 1) := (p15_ hF.out) (hw 14 (by decide))
      have e15 : s 20 = .pointer (some ⟨F, 2, none⟩) := (p16_ hF.out) (hw 15 (by decide))
      have e16 : s 21 = .int .i64 (f 2) := (p17_ hF.out) (hw 16 (by decide))
      have e17 : s 22 = .pointer (some ⟨F, 3, none⟩) := (p18_ hF.out) (hw 17 (by decide))
      have e18 : s 23 = .int .i64 (f 3) := (p19_ hF.out) (hw 18 (by decide))
      have e19 : s 24 = .int .u32 z := (p20_ hF.out) (hw 19 (by decide))
      have e20 : s 25 = .bool true := (p21_ hF.out) (hw 20 (by decide))
      have e21 : s 26 = .bool true := (p22_ hF.out) (hw 21 (by decide))
      have e22 : s 27 = .bool true := (p23_ hF.out) (hw 22 (by decide))
      have e23 : s 28 = .bool true := (p24_ hF.out) (hw 23 (by decide))
      dsimp only
      go_simp
      exact hK.out (ups (ups (ups (ups (ups (ups (ups (ups (ups (ups (ups (ups (ups (ups (ups (ups (ups (ups (ups (ups (ups (ups (ups (ups (ups s 5 (.int .u64 sd)) 6 (.pointer (some ⟨F, 0, none⟩))) 7 (.int .i64 (f 0))) 8 (.pointer (some ⟨F, 1, none⟩))) 9 (.int .i64 (f 1))) 10 (.pointer (some ⟨F, 2, none⟩))) 11 (.int .i64 (f 2))) 12 (.pointer (some ⟨F, 3, none⟩))) 13 (.int .i64 (f 3))) 14 (.int .u32 z)) 15 (.int .u64 sd)) 16 (.pointer (some ⟨F, 0, none⟩))) 17 (.int .i64 (f 0))) 18 (.pointer (some ⟨F, 1, none⟩))) 19 (.int .i64 (f 1))) 20 (.pointer (some ⟨F, 2, none⟩))) 21 (.int .i64 (f 2))) 22 (.pointer (some ⟨F, 3, none⟩))) 23 (.int .i64 (f 3))) 24 (.int .u32 z)) 25 (.bool true)) 26 (.bool true)) 27 (.bool true)) 28 (.bool true)) 4 (.bool true)) b _ ⟨hB, (fun _ => rfl), (fun _ => rfl), (fun _ => rfl), (fun _ => rfl), (fun _ => rfl), (fun _ => rfl), (fun _ => rfl), (fun _ => rfl), (fun _ => rfl), (fun _ => rfl), (fun _ => rfl), (fun _ => rfl), (fun _ => rfl), (fun _ => rfl), (fun _ => rfl), (fun _ => rfl), (fun _ => rfl), (fun _ => rfl), (fun _ => rfl), (fun _ => rfl), (fun _ => rfl), (fun _ => rfl), (fun _ => rfl), (fun _ => rfl), (fun _ => rfl)⟩
    exact StepsF.nil
  intro d s b y1 hF hall
  replace hF := Lib.hid hF
  have hB : Below W0.heap.size W0 y1 := (p0_ hF.out)
  try dsimp only
  have e0 : s 5 = .int .u64 sd := (p1_ hF.out) (hall 0 (by decide))
  have e1 : s 6 = .pointer (some ⟨F, 0, none⟩) := (p2_ hF.out) (hall 1 (by decide))
  have e2 : s 7 = .int .i64 (f 0) := (p3_ hF.out) (hall 2 (by decide))
  have e3 : s 8 = .pointer (some ⟨F, 1, none⟩) := (p4_ hF.out) (hall 3 (by decide))
  have e4 : s 9 = .int .i64 (f 1) := (p5_ hF.out) (hall 4 (by decide))
  have e5 : s 10 = .pointer (some ⟨F, 2, none⟩) := (p6_ hF.out) (hall 5 (by decide))
  have e6 : s 11 = .int .i64 (f 2) := (p7_ hF.out) (hall 6 (by decide))
  have e7 : s 12 = .pointer (some ⟨F, 3, none⟩) := (p8_ hF.out) (hall 7 (by decide))
  have e8 : s 13 = .int .i64 (f 3) := (p9_ hF.out) (hall 8 (by decide))
  have e9 : s 14 = .int .u32 z := (p10_ hF.out) (hall 9 (by decide))
  have e10 : s 15 = .int .u64 sd := (p11_ hF.out) (hall 10 (by decide))
  have e11 : s 16 = .pointer (some ⟨F, 0, none⟩) := (p12_ hF.out) (hall 11 (by decide))
  have e12 : s 17 = .int .i64 (f 0) := (p13_ hF.out) (hall 12 (by decide))
  have e13 : s 18 = .pointer (some ⟨F, 1, none⟩) := (p14_ hF.out) (hall 13 (by decide))
  have e14 : s 19 = .int .i64 (f 1) := (p15_ hF.out) (hall 14 (by decide))
  have e15 : s 20 = .pointer (some ⟨F, 2, none⟩) := (p16_ hF.out) (hall 15 (by decide))
  have e16 : s 21 = .int .i64 (f 2) := (p17_ hF.out) (hall 16 (by decide))
  have e17 : s 22 = .pointer (some ⟨F, 3, none⟩) := (p18_ hF.out) (hall 17 (by decide))
  have e18 : s 23 = .int .i64 (f 3) := (p19_ hF.out) (hall 18 (by decide))
  have e19 : s 24 = .int .u32 z := (p20_ hF.out) (hall 19 (by decide))
  have e20 : s 25 = .bool true := (p21_ hF.out) (hall 20 (by decide))
  have e21 : s 26 = .bool true := (p22_ hF.out) (hall 21 (by decide))
  have e22 : s 27 = .bool true := (p23_ hF.out) (hall 22 (by decide))
  have e23 : s 28 = .bool true := (p24_ hF.out) (hall 23 (by decide))
  have e24 : s 4 = .bool true := (q25_ hF.out) (hall 24 (by decide))
  rw [e0, e1, e2, e3, e4, e5, e6, e7, e8, e9, e10, e11, e12, e13, e14, e15, e16, e17, e18, e19, e20, e21, e22, e23, e24]
  clear hall hF e0 e1 e2 e3 e4 e5 e6 e7 e8 e9 e10 e11 e12 e13 e14 e15 e16 e17 e18 e19 e20 e21 e22 e23 e24
  clear d s b
  go_wp2_with (fail)
  go_ret
  exact ⟨rfl, Below.go hB0 hB⟩
end Go.Proofs.YtbepgbpmgiihbaaDoor
