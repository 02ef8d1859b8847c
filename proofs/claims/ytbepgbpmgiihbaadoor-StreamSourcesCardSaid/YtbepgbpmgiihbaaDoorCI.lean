/- umbraref06.quarter. -/
import Derived.Test.YtbepgbpmgiihbaaDoorCH
import Derived.LoopN
import Derived.LoopTactic
import Derived.Deep.RegionHeld3
namespace Go.Proofs.YtbepgbpmgiihbaaDoor
set_option linter.unusedVariables false
set_option maxRecDepth 2000
set_option linter.unusedSimpArgs false
open Go.RowKit

set_option maxHeartbeats 8000000 in
theorem quarter_any (f : Nat → Int) (hs : inS f) (a0 a1 a2 a3 : Nat) (b0 : a0 < 16) (b1 : a1 < 16) (b2 : a2 < 16) (b3 : a3 < 16) (n01 : a0 ≠ a1) (n02 : a0 ≠ a2) (n03 : a0 ≠ a3) (n12 : a1 ≠ a2) (n13 : a1 ≠ a3) (n23 : a2 ≠ a3) (w : World) :
    Calls Tryd.prog 24 #[(.agg (nums .u32 f 16).toArray), .int .i64 (a0 : Nat), .int .i64 (a1 : Nat), .int .i64 (a2 : Nat), .int .i64 (a3 : Nat)] w fun e w' => e = .returned (.agg (nums .u32 (qAt f a0 a1 a2 a3) 16).toArray) ∧ Below w.heap.size w w' := by
  have A0 := Lib.hid b0; have A1 := Lib.hid b1; have A2 := Lib.hid b2; have A3 := Lib.hid b3
  clear b0 b1 b2 b3
  have J0 := Lib.hid (hs a0 A0.out); have J1 := Lib.hid (hs a1 A1.out); have J2 := Lib.hid (hs a2 A2.out); have J3 := Lib.hid (hs a3 A3.out)
  clear hs
  have V0 := Lib.hid (nums_at .u32 f A0.out); have V1 := Lib.hid (nums_at .u32 f A1.out); have V2 := Lib.hid (nums_at .u32 f A2.out); have V3 := Lib.hid (nums_at .u32 f A3.out)
  unfold qAt
  obtain ⟨v0, e0⟩ : ∃ z, f a0 = z := ⟨_, rfl⟩
  obtain ⟨v1, e1⟩ : ∃ z, f a1 = z := ⟨_, rfl⟩
  obtain ⟨v2, e2⟩ : ∃ z, f a2 = z := ⟨_, rfl⟩
  obtain ⟨v3, e3⟩ : ∃ z, f a3 = z := ⟨_, rfl⟩
  rw [e0] at J0 V0; rw [e1] at J1 V1; rw [e2] at J2 V2; rw [e3] at J3 V3
  rw [e0, e1, e2, e3]
  clear e0 e1 e2 e3
  obtain ⟨p0, e0⟩ : ∃ z, (quarterF ⟨v0, v1, v2, v3⟩).a = z := ⟨_, rfl⟩
  obtain ⟨p1, e1⟩ : ∃ z, (quarterF ⟨v0, v1, v2, v3⟩).b = z := ⟨_, rfl⟩
  obtain ⟨p2, e2⟩ : ∃ z, (quarterF ⟨v0, v1, v2, v3⟩).c = z := ⟨_, rfl⟩
  obtain ⟨p3, e3⟩ : ∃ z, (quarterF ⟨v0, v1, v2, v3⟩).d = z := ⟨_, rfl⟩
  have QC := Lib.hid (RQuarter_of v0 v1 v2 v3 p0 p1 p2 p3 J0.out J1.out J2.out J3.out e0 e1 e2 e3)
  rw [e0, e1, e2, e3]
  clear e0 e1 e2 e3 J0 J1 J2 J3
  have N := Lib.hid (show a0 ≠ a1 ∧ a0 ≠ a2 ∧ a0 ≠ a3 ∧ a1 ≠ a2 ∧ a1 ≠ a3 ∧ a2 ≠ a3 from ⟨n01, n02, n03, n12, n13, n23⟩)
  clear n01 n02 n03 n12 n13 n23
  go_enter Tryd.func24, Tryd.ntmps24
  go_upto_region 1 with fail
  obtain ⟨W1, hW⟩ : ∃ W1, W1 = ((w.alloc (.cells (nums .u32 f 16).toArray 56)).alloc (.cells #[.int .u32 0, .int .u32 0, .int .u32 0, .int .u32 0, .int .u32 0, .int .u32 0, .int .u32 0, .int .u32 0, .int .u32 0, .int .u32 0, .int .u32 0, .int .u32 0, .int .u32 0, .int .u32 0, .int .u32 0, .int .u32 0] 56)) := ⟨_, rfl⟩
  have hB0 : Below w.heap.size w W1 := hW ▸ (Below.al (Below.al (Below.refl _ _)))
  have HS : Hid (Own w.heap.size (nums .u32 f 16) W1) := Lib.hid (hW ▸ (show Own w.heap.size (nums .u32 f 16) (w.alloc (.cells (nums .u32 f 16).toArray 56)) from Own.newAt (by simp)).alloc)
  have HR : Hid (Own (w.heap.size + 1) ([.int .u32 0, .int .u32 0, .int .u32 0, .int .u32 0, .int .u32 0, .int .u32 0, .int .u32 0, .int .u32 0, .int .u32 0, .int .u32 0, .int .u32 0, .int .u32 0, .int .u32 0, .int .u32 0, .int .u32 0, .int .u32 0]) W1) := Lib.hid (hW ▸ (show Own (w.heap.size + 1) ([.int .u32 0, .int .u32 0, .int .u32 0, .int .u32 0, .int .u32 0, .int .u32 0, .int .u32 0, .int .u32 0, .int .u32 0, .int .u32 0, .int .u32 0, .int .u32 0, .int .u32 0, .int .u32 0, .int .u32 0, .int .u32 0]) ((w.alloc (.cells (nums .u32 f 16).toArray 56)).alloc (.cells #[.int .u32 0, .int .u32 0, .int .u32 0, .int .u32 0, .int .u32 0, .int .u32 0, .int .u32 0, .int .u32 0, .int .u32 0, .int .u32 0, .int .u32 0, .int .u32 0, .int .u32 0, .int .u32 0, .int .u32 0, .int .u32 0] 56)) from Own.newAt (by simp)))
  rw [← hW]
  clear hW
  obtain ⟨R, eR⟩ : ∃ X, X = (w.heap.size + 1) := ⟨_, rfl⟩
  rw [← eR] at HR ⊢
  have Rw : w.heap.size ≤ R := by omega
  obtain ⟨S, eS⟩ : ∃ X, X = w.heap.size := ⟨_, rfl⟩
  rw [← eS] at HS ⊢
  have Sw : w.heap.size ≤ S := by omega
  have nSR : S ≠ R := by omega
  have nRS : R ≠ S := by omega
  clear eS eR
  have ca0 : (a0 : Int) < 16 := by have := A0.out; omega
  have da0 : (0 : Int) ≤ (a0 : Int) := by omega
  have ca1 : (a1 : Int) < 16 := by have := A1.out; omega
  have da1 : (0 : Int) ≤ (a1 : Int) := by omega
  have ca2 : (a2 : Int) < 16 := by have := A2.out; omega
  have da2 : (0 : Int) ≤ (a2 : Int) := by omega
  have ca3 : (a3 : Int) < 16 := by have := A3.out; omega
  have da3 : (0 : Int) ≤ (a3 : Int) := by omega
  refine wp_region_fun 16 (by kernel_rfl) (by kernel_rfl) rfl (fun s b => ⟨#[(.agg (nums .u32 f 16).toArray), .int .i64 (a0 : Nat), .int .i64 (a1 : Nat), .int .i64 (a2 : Nat), .int .i64 (a3 : Nat), .pointer (some ⟨S, 0, none⟩), undef, undef, undef, undef, .pointer (some ⟨R, 0, none⟩), s 11, s 12, s 13, s 14, s 15, s 16, s 17, s 18, s 19, s 20, s 21, s 22, s 23, s 24, s 25, undef, undef, undef, undef, undef, undef, undef, undef, undef, undef, undef, undef, undef, undef, undef, undef, undef], []⟩) (fun d s b w => (Below W1.heap.size W1 w) ∧ (d 0 = true → s 12 = .int .i64 (a0 : Nat)) ∧ (d 1 = true → s 13 = .pointer (some ⟨S, a0, none⟩)) ∧ (d 2 = true → s 14 = .int .u32 v0) ∧ (d 3 = true → s 15 = .int .i64 (a1 : Nat)) ∧ (d 4 = true → s 16 = .pointer (some ⟨S, a1, none⟩)) ∧ (d 5 = true → s 17 = .int .u32 v1) ∧ (d 6 = true → s 18 = .int .i64 (a2 : Nat)) ∧ (d 7 = true → s 19 = .pointer (some ⟨S, a2, none⟩)) ∧ (d 8 = true → s 20 = .int .u32 v2) ∧ (d 9 = true → s 21 = .int .i64 (a3 : Nat)) ∧ (d 10 = true → s 22 = .pointer (some ⟨S, a3, none⟩)) ∧ (d 11 = true → s 23 = .int .u32 v3) ∧ (d 12 = true → s 24 = (.agg #[.int .u32 v0, .int .u32 v1, .int .u32 v2, .int .u32 v3])) ∧ (d 13 = true → s 25 = (.agg #[.int .u32 p0, .int .u32 p1, .int .u32 p2, .int .u32 p3])) ∧ (d 14 = true → s 11 = .pointer (some ⟨(b 14), 0, none⟩) ∧ W1.heap.size ≤ b 14) ∧ (d 14 = true → d 15 = false → Own (b 14) [.int .u32 0, .int .u32 0, .int .u32 0, .int .u32 0] w) ∧ (d 15 = true → Own (b 14) [.int .u32 p0, .int .u32 p1, .int .u32 p2, .int .u32 p3] w) ∧ (d 15 = true → d 14 = true)) rfl ?h0y1 (?sty1 : StepsF _ _ _ _ 16 _ _ [0, 1, 2, 3, 4, 5, 6, 7, 8, 9, 10, 11, 12, 13, 14, 15]) ?dny1
  case h0y1 => exact ⟨Below.drew (Below.refl _ _), (fun h => nomatch h), (fun h => nomatch h), (fun h => nomatch h), (fun h => nomatch h), (fun h => nomatch h), (fun h => nomatch h), (fun h => nomatch h), (fun h => nomatch h), (fun h => nomatch h), (fun h => nomatch h), (fun h => nomatch h), (fun h => nomatch h), (fun h => nomatch h), (fun h => nomatch h), (fun h => nomatch h), (fun h => nomatch h), (fun h => nomatch h), (fun h => nomatch h)⟩
  case sty1 =>
    refine StepsF.cons (o := _) rfl (ws := []) (by kernel_rfl) (by decide) (fun d s b w hF hd hw K hK => ?_) ?_
    · have hB : Below W1.heap.size W1 w := (p0_ hF.out)
      dsimp only
      go_simp
      exact hK.out (ups s 12 (.int .i64 (a0 : Nat))) b _ ⟨hB, (fun _ => rfl), (p2_ hF.out), (p3_ hF.out), (p4_ hF.out), (p5_ hF.out), (p6_ hF.out), (p7_ hF.out), (p8_ hF.out), (p9_ hF.out), (p10_ hF.out), (p11_ hF.out), (p12_ hF.out), (p13_ hF.out), (p14_ hF.out), (p15_ hF.out), (p16_ hF.out), (p17_ hF.out), (q18_ hF.out)⟩
    refine StepsF.cons (o := _) rfl (ws := [0]) (by kernel_rfl) (by decide) (fun d s b w hF hd hw K hK => ?_) ?_
    · have hB : Below W1.heap.size W1 w := (p0_ hF.out)
      have e0 : s 12 = .int .i64 (a0 : Nat) := (p1_ hF.out) (hw 0 (by decide))
      dsimp only
      go_simp
      exact hK.out (ups (ups s 12 (.int .i64 (a0 : Nat))) 13 (.pointer (some ⟨S, a0, none⟩))) b _ ⟨hB, (fun _ => rfl), (fun _ => rfl), (p3_ hF.out), (p4_ hF.out), (p5_ hF.out), (p6_ hF.out), (p7_ hF.out), (p8_ hF.out), (p9_ hF.out), (p10_ hF.out), (p11_ hF.out), (p12_ hF.out), (p13_ hF.out), (p14_ hF.out), (p15_ hF.out), (p16_ hF.out), (p17_ hF.out), (q18_ hF.out)⟩
    refine StepsF.cons (o := _) rfl (ws := [1]) (by kernel_rfl) (by decide) (fun d s b w hF hd hw K hK => ?_) ?_
    · have hB : Below W1.heap.size W1 w := (p0_ hF.out)
      have e1 : s 13 = .pointer (some ⟨S, a0, none⟩) := (p2_ hF.out) (hw 1 (by decide))
      dsimp only
      have oS := HS.out.later hB
      have Sx := oS.at a0 _ V0.out
      clear oS
      go_simp
      exact hK.out (ups (ups s 13 (.pointer (some ⟨S, a0, none⟩))) 14 (.int .u32 v0)) b _ ⟨hB, (p1_ hF.out), (fun _ => rfl), (fun _ => rfl), (p4_ hF.out), (p5_ hF.out), (p6_ hF.out), (p7_ hF.out), (p8_ hF.out), (p9_ hF.out), (p10_ hF.out), (p11_ hF.out), (p12_ hF.out), (p13_ hF.out), (p14_ hF.out), (p15_ hF.out), (p16_ hF.out), (p17_ hF.out), (q18_ hF.out)⟩
    refine StepsF.cons (o := _) rfl (ws := []) (by kernel_rfl) (by decide) (fun d s b w hF hd hw K hK => ?_) ?_
    · have hB : Below W1.heap.size W1 w := (p0_ hF.out)
      dsimp only
      go_simp
      exact hK.out (ups s 15 (.int .i64 (a1 : Nat))) b _ ⟨hB, (p1_ hF.out), (p2_ hF.out), (p3_ hF.out), (fun _ => rfl), (p5_ hF.out), (p6_ hF.out), (p7_ hF.out), (p8_ hF.out), (p9_ hF.out), (p10_ hF.out), (p11_ hF.out), (p12_ hF.out), (p13_ hF.out), (p14_ hF.out), (p15_ hF.out), (p16_ hF.out), (p17_ hF.out), (q18_ hF.out)⟩
    refine StepsF.cons (o := _) rfl (ws := [3]) (by kernel_rfl) (by decide) (fun d s b w hF hd hw K hK => ?_) ?_
    · have hB : Below W1.heap.size W1 w := (p0_ hF.out)
      have e3 : s 15 = .int .i64 (a1 : Nat) := (p4_ hF.out) (hw 3 (by decide))
      dsimp only
      go_simp
      exact hK.out (ups (ups s 15 (.int .i64 (a1 : Nat))) 16 (.pointer (some ⟨S, a1, none⟩))) b _ ⟨hB, (p1_ hF.out), (p2_ hF.out), (p3_ hF.out), (fun _ => rfl), (fun _ => rfl), (p6_ hF.out), (p7_ hF.out), (p8_ hF.out), (p9_ hF.out), (p10_ hF.out), (p11_ hF.out), (p12_ hF.out), (p13_ hF.out), (p14_ hF.out), (p15_ hF.out), (p16_ hF.out), (p17_ hF.out), (q18_ hF.out)⟩
    refine StepsF.cons (o := _) rfl (ws := [4]) (by kernel_rfl) (by decide) (fun d s b w hF hd hw K hK => ?_) ?_
    · have hB : Below W1.heap.size W1 w := (p0_ hF.out)
      have e4 : s 16 = .pointer (some ⟨S, a1, none⟩) := (p5_ hF.out) (hw 4 (by decide))
      dsimp only
      have oS := HS.out.later hB
      have Sx := oS.at a1 _ V1.out
      clear oS
      go_simp
      exact hK.out (ups (ups s 16 (.pointer (some ⟨S, a1, none⟩))) 17 (.int .u32 v1)) b _ ⟨hB, (p1_ hF.out), (p2_ hF.out), (p3_ hF.out), (p4_ hF.out), (fun _ => rfl), (fun _ => rfl), (p7_ hF.out), (p8_ hF.out), (p9_ hF.out), (p10_ hF.out), (p11_ hF.out), (p12_ hF.out), (p13_ hF.out), (p14_ hF.out), (p15_ hF.out), (p16_ hF.out), (p17_ hF.out), (q18_ hF.out)⟩
    refine StepsF.cons (o := _) rfl (ws := []) (by kernel_rfl) (by decide) (fun d s b w hF hd hw K hK => ?_) ?_
    · have hB : Below W1.heap.size W1 w := (p0_ hF.out)
      dsimp only
      go_simp
      exact hK.out (ups s 18 (.int .i64 (a2 : Nat))) b _ ⟨hB, (p1_ hF.out), (p2_ hF.out), (p3_ hF.out), (p4_ hF.out), (p5_ hF.out), (p6_ hF.out), (fun _ => rfl), (p8_ hF.out), (p9_ hF.out), (p10_ hF.out), (p11_ hF.out), (p12_ hF.out), (p13_ hF.out), (p14_ hF.out), (p15_ hF.out), (p16_ hF.out), (p17_ hF.out), (q18_ hF.out)⟩
    refine StepsF.cons (o := _) rfl (ws := [6]) (by kernel_rfl) (by decide) (fun d s b w hF hd hw K hK => ?_) ?_
    · have hB : Below W1.heap.size W1 w := (p0_ hF.out)
      have e6 : s 18 = .int .i64 (a2 : Nat) := (p7_ hF.out) (hw 6 (by decide))
      dsimp only
      go_simp
      exact hK.out (ups (ups s 18 (.int .i64 (a2 : Nat))) 19 (.pointer (some ⟨S, a2, none⟩))) b _ ⟨hB, (p1_ hF.out), (p2_ hF.out), (p3_ hF.out), (p4_ hF.out), (p5_ hF.out), (p6_ hF.out), (fun _ => rfl), (fun _ => rfl), (p9_ hF.out), (p10_ hF.out), (p11_ hF.out), (p12_ hF.out), (p13_ hF.out), (p14_ hF.out), (p15_ hF.out), (p16_ hF.out), (p17_ hF.out), (q18_ hF.out)⟩
    refine StepsF.cons (o := _) rfl (ws := [7]) (by kernel_rfl) (by decide) (fun d s b w hF hd hw K hK => ?_) ?_
    · have hB : Below W1.heap.size W1 w := (p0_ hF.out)
      have e7 : s 19 = .pointer (some ⟨S, a2, none⟩) := (p8_ hF.out) (hw 7 (by decide))
      dsimp only
      have oS := HS.out.later hB
      have Sx := oS.at a2 _ V2.out
      clear oS
      go_simp
      exact hK.out (ups (ups s 19 (.pointer (some ⟨S, a2, none⟩))) 20 (.int .u32 v2)) b _ ⟨hB, (p1_ hF.out), (p2_ hF.out), (p3_ hF.out), (p4_ hF.out), (p5_ hF.out), (p6_ hF.out), (p7_ hF.out), (fun _ => rfl), (fun _ => rfl), (p10_ hF.out), (p11_ hF.out), (p12_ hF.out), (p13_ hF.out), (p14_ hF.out), (p15_ hF.out), (p16_ hF.out), (p17_ hF.out), (q18_ hF.out)⟩
    refine StepsF.cons (o := _) rfl (ws := []) (by kernel_rfl) (by decide) (fun d s b w hF hd hw K hK => ?_) ?_
    · have hB : Below W1.heap.size W1 w := (p0_ hF.out)
      dsimp only
      go_simp
      exact hK.out (ups s 21 (.int .i64 (a3 : Nat))) b _ ⟨hB, (p1_ hF.out), (p2_ hF.out), (p3_ hF.out), (p4_ hF.out), (p5_ hF.out), (p6_ hF.out), (p7_ hF.out), (p8_ hF.out), (p9_ hF.out), (fun _ => rfl), (p11_ hF.out), (p12_ hF.out), (p13_ hF.out), (p14_ hF.out), (p15_ hF.out), (p16_ hF.out), (p17_ hF.out), (q18_ hF.out)⟩
    refine StepsF.cons (o := _) rfl (ws := [9]) (by kernel_rfl) (by decide) (fun d s b w hF hd hw K hK => ?_) ?_
    · have hB : Below W1.heap.size W1 w := (p0_ hF.out)
      have e9 : s 21 = .int .i64 (a3 : Nat) := (p10_ hF.out) (hw 9 (by decide))
      dsimp only
      go_simp
      exact hK.out (ups (ups s 21 (.int .i64 (a3 : Nat))) 22 (.pointer (some ⟨S, a3, none⟩))) b _ ⟨hB, (p1_ hF.out), (p2_ hF.out), (p3_ hF.out), (p4_ hF.out), (p5_ hF.out), (p6_ hF.out), (p7_ hF.out), (p8_ hF.out), (p9_ hF.out), (fun _ => rfl), (fun _ => rfl), (p12_ hF.out), (p13_ hF.out), (p14_ hF.out), (p15_ hF.out), (p16_ hF.out), (p17_ hF.out), (q18_ hF.out)⟩
    refine StepsF.cons (o := _) rfl (ws := [10]) (by kernel_rfl) (by decide) (fun d s b w hF hd hw K hK => ?_) ?_
    · have hB : Below W1.heap.size W1 w := (p0_ hF.out)
      have e10 : s 22 = .pointer (some ⟨S, a3, none⟩) := (p11_ hF.out) (hw 10 (by decide))
      dsimp only
      have oS := HS.out.later hB
      have Sx := oS.at a3 _ V3.out
      clear oS
      go_simp
      exact hK.out (ups (ups s 22 (.pointer (some ⟨S, a3, none⟩))) 23 (.int .u32 v3)) b _ ⟨hB, (p1_ hF.out), (p2_ hF.out), (p3_ hF.out), (p4_ hF.out), (p5_ hF.out), (p6_ hF.out), (p7_ hF.out), (p8_ hF.out), (p9_ hF.out), (p10_ hF.out), (fun _ => rfl), (fun _ => rfl), (p13_ hF.out), (p14_ hF.out), (p15_ hF.out), (p16_ hF.out), (p17_ hF.out), (q18_ hF.out)⟩
    refine StepsF.cons (o := _) rfl (ws := [2, 5, 8, 11]) (by kernel_rfl) (by decide) (fun d s b w hF hd hw K hK => ?_) ?_
    · have hB : Below W1.heap.size W1 w := (p0_ hF.out)
      have e2 : s 14 = .int .u32 v0 := (p3_ hF.out) (hw 2 (by decide))
      have e5 : s 17 = .int .u32 v1 := (p6_ hF.out) (hw 5 (by decide))
      have e8 : s 20 = .int .u32 v2 := (p9_ hF.out) (hw 8 (by decide))
      have e11 : s 23 = .int .u32 v3 := (p12_ hF.out) (hw 11 (by decide))
      dsimp only
      go_simp
      exact hK.out (ups (ups (ups (ups (ups s 14 (.int .u32 v0)) 17 (.int .u32 v1)) 20 (.int .u32 v2)) 23 (.int .u32 v3)) 24 ((.agg #[.int .u32 v0, .int .u32 v1, .int .u32 v2, .int .u32 v3]))) b _ ⟨hB, (p1_ hF.out), (p2_ hF.out), (fun _ => rfl), (p4_ hF.out), (p5_ hF.out), (fun _ => rfl), (p7_ hF.out), (p8_ hF.out), (fun _ => rfl), (p10_ hF.out), (p11_ hF.out), (fun _ => rfl), (fun _ => rfl), (p14_ hF.out), (p15_ hF.out), (p16_ hF.out), (p17_ hF.out), (q18_ hF.out)⟩
    refine StepsF.cons (o := _) rfl (ws := [12]) (by kernel_rfl) (by decide) (fun d s b w hF hd hw K hK => ?_) ?_
    · have hB : Below W1.heap.size W1 w := (p0_ hF.out)
      have e12 : s 24 = (.agg #[.int .u32 v0, .int .u32 v1, .int .u32 v2, .int .u32 v3]) := (p13_ hF.out) (hw 12 (by decide))
      dsimp only
      go_simp
      go_at_call 27
      refine (QC.out _).mono ?_
      rintro e w1 ⟨rfl, hb⟩
      exact hK.out (ups (ups s 24 ((.agg #[.int .u32 v0, .int .u32 v1, .int .u32 v2, .int .u32 v3]))) 25 ((.agg #[.int .u32 p0, .int .u32 p1, .int .u32 p2, .int .u32 p3]))) b _ ⟨(Below.go hB hb), (p1_ hF.out), (p2_ hF.out), (p3_ hF.out), (p4_ hF.out), (p5_ hF.out), (p6_ hF.out), (p7_ hF.out), (p8_ hF.out), (p9_ hF.out), (p10_ hF.out), (p11_ hF.out), (p12_ hF.out), (fun _ => rfl), (fun _ => rfl), (p15_ hF.out), (fun h0 h1 => ((p16_ hF.out) h0 h1).later hb), (fun h0 => ((p17_ hF.out) h0).later hb), (q18_ hF.out)⟩
    refine StepsF.cons (o := _) rfl (ws := []) (by kernel_rfl) (by decide) (fun d s b w hF hd hw K hK => ?_) ?_
    · have hB : Below W1.heap.size W1 w := (p0_ hF.out)
      dsimp only
      go_simp
      exact hK.out (ups s 11 (.pointer (some ⟨w.heap.size, 0, none⟩))) (ups b 14 w.heap.size) _ ⟨(hB.alloc hB.size _), (p1_ hF.out), (p2_ hF.out), (p3_ hF.out), (p4_ hF.out), (p5_ hF.out), (p6_ hF.out), (p7_ hF.out), (p8_ hF.out), (p9_ hF.out), (p10_ hF.out), (p11_ hF.out), (p12_ hF.out), (p13_ hF.out), (p14_ hF.out), (fun _ => ⟨rfl, hB.size⟩), (fun _ _ => Own.newAt rfl), (fun h => absurd ((q18_ hF.out) h) (by simp [hd])), (fun _ => rfl)⟩
    refine StepsF.cons (o := _) rfl (ws := [14, 13, 13, 0, 1, 2, 3, 4, 5, 6, 7, 8, 9, 10, 11, 12, 13, 14]) (by kernel_rfl) (by decide) (fun d s b w hF hd hw K hK => ?_) ?_
    · have hB : Below W1.heap.size W1 w := (p0_ hF.out)
      have e0 : s 12 = .int .i64 (a0 : Nat) := (p1_ hF.out) (hw 0 (by decide))
      have e1 : s 13 = .pointer (some ⟨S, a0, none⟩) := (p2_ hF.out) (hw 1 (by decide))
      have e2 : s 14 = .int .u32 v0 := (p3_ hF.out) (hw 2 (by decide))
      have e3 : s 15 = .int .i64 (a1 : Nat) := (p4_ hF.out) (hw 3 (by decide))
      have e4 : s 16 = .pointer (some ⟨S, a1, none⟩) := (p5_ hF.out) (hw 4 (by decide))
      have e5 : s 17 = .int .u32 v1 := (p6_ hF.out) (hw 5 (by decide))
      have e6 : s 18 = .int .i64 (a2 : Nat) := (p7_ hF.out) (hw 6 (by decide))
      have e7 : s 19 = .pointer (some ⟨S, a2, none⟩) := (p8_ hF.out) (hw 7 (by decide))
      have e8 : s 20 = .int .u32 v2 := (p9_ hF.out) (hw 8 (by decide))
      have e9 : s 21 = .int .i64 (a3 : Nat) := (p10_ hF.out) (hw 9 (by decide))
      have e10 : s 22 = .pointer (some ⟨S, a3, none⟩) := (p11_ hF.out) (hw 10 (by decide))
      have e11 : s 23 = .int .u32 v3 := (p12_ hF.out) (hw 11 (by decide))
      have e12 : s 24 = (.agg #[.int .u32 v0, .int .u32 v1, .int .u32 v2, .int .u32 v3]) := (p13_ hF.out) (hw 12 (by decide))
      have e13 : s 25 = (.agg #[.int .u32 p0, .int .u32 p1, .int .u32 p2, .int .u32 p3]) := (p14_ hF.out) (hw 13 (by decide))
      have e14 : s 11 = .pointer (some ⟨(b 14), 0, none⟩) := ((p15_ hF.out) (hw 14 (by decide))).1
      have le14 : W1.heap.size ≤ b 14 := ((p15_ hF.out) (hw 14 (by decide))).2
      dsimp only
      have o14 := (p16_ hF.out) (hw 14 (by decide)) hd
      have fr0 := o14.ok 0 (by simp)
      have fr1 := o14.ok 1 (by simp)
      have fr2 := o14.ok 2 (by simp)
      have fr3 := o14.ok 3 (by simp)
      have ce0 := o14.at 0 _ rfl
      have ce1 := o14.at 1 _ rfl
      have ce2 := o14.at 2 _ rfl
      have ce3 := o14.at 3 _ rfl
      go_simp
      exact hK.out (ups (ups (ups (ups (ups (ups (ups (ups (ups (ups (ups (ups (ups (ups (ups s 12 (.int .i64 (a0 : Nat))) 13 (.pointer (some ⟨S, a0, none⟩))) 14 (.int .u32 v0)) 15 (.int .i64 (a1 : Nat))) 16 (.pointer (some ⟨S, a1, none⟩))) 17 (.int .u32 v1)) 18 (.int .i64 (a2 : Nat))) 19 (.pointer (some ⟨S, a2, none⟩))) 20 (.int .u32 v2)) 21 (.int .i64 (a3 : Nat))) 22 (.pointer (some ⟨S, a3, none⟩))) 23 (.int .u32 v3)) 24 ((.agg #[.int .u32 v0, .int .u32 v1, .int .u32 v2, .int .u32 v3]))) 25 ((.agg #[.int .u32 p0, .int .u32 p1, .int .u32 p2, .int .u32 p3]))) 11 (.pointer (some ⟨(b 14), 0, none⟩))) b _ ⟨(Below.setCells hB le14 [.int .u32 p0, .int .u32 p1, .int .u32 p2, .int .u32 p3] 0), (fun _ => rfl), (fun _ => rfl), (fun _ => rfl), (fun _ => rfl), (fun _ => rfl), (fun _ => rfl), (fun _ => rfl), (fun _ => rfl), (fun _ => rfl), (fun _ => rfl), (fun _ => rfl), (fun _ => rfl), (fun _ => rfl), (fun _ => rfl), (fun _ => ⟨rfl, le14⟩), (fun _ h => nomatch h), (fun _ => Own.store (vs := [.int .u32 p0, .int .u32 p1, .int .u32 p2, .int .u32 p3]) o14 rfl), (fun _ => hw 14 (by decide))⟩
    exact StepsF.nil
  intro d s b y1 hF hall
  replace hF := Lib.hid hF
  have hB : Below W1.heap.size W1 y1 := (p0_ hF.out)
  try dsimp only
  have e0 : s 12 = .int .i64 (a0 : Nat) := (p1_ hF.out) (hall 0 (by decide))
  have e1 : s 13 = .pointer (some ⟨S, a0, none⟩) := (p2_ hF.out) (hall 1 (by decide))
  have e2 : s 14 = .int .u32 v0 := (p3_ hF.out) (hall 2 (by decide))
  have e3 : s 15 = .int .i64 (a1 : Nat) := (p4_ hF.out) (hall 3 (by decide))
  have e4 : s 16 = .pointer (some ⟨S, a1, none⟩) := (p5_ hF.out) (hall 4 (by decide))
  have e5 : s 17 = .int .u32 v1 := (p6_ hF.out) (hall 5 (by decide))
  have e6 : s 18 = .int .i64 (a2 : Nat) := (p7_ hF.out) (hall 6 (by decide))
  have e7 : s 19 = .pointer (some ⟨S, a2, none⟩) := (p8_ hF.out) (hall 7 (by decide))
  have e8 : s 20 = .int .u32 v2 := (p9_ hF.out) (hall 8 (by decide))
  have e9 : s 21 = .int .i64 (a3 : Nat) := (p10_ hF.out) (hall 9 (by decide))
  have e10 : s 22 = .pointer (some ⟨S, a3, none⟩) := (p11_ hF.out) (hall 10 (by decide))
  have e11 : s 23 = .int .u32 v3 := (p12_ hF.out) (hall 11 (by decide))
  have e12 : s 24 = (.agg #[.int .u32 v0, .int .u32 v1, .int .u32 v2, .int .u32 v3]) := (p13_ hF.out) (hall 12 (by decide))
  have e13 : s 25 = (.agg #[.int .u32 p0, .int .u32 p1, .int .u32 p2, .int .u32 p3]) := (p14_ hF.out) (hall 13 (by decide))
  have e14 : s 11 = .pointer (some ⟨(b 14), 0, none⟩) := ((p15_ hF.out) (hall 14 (by decide))).1
  have le14 : W1.heap.size ≤ b 14 := ((p15_ hF.out) (hall 14 (by decide))).2
  have f15 := (p17_ hF.out) (hall 15 (by decide))
  rw [e0, e1, e2, e3, e4, e5, e6, e7, e8, e9, e10, e11, e12, e13, e14]
  clear hall hF e0 e1 e2 e3 e4 e5 e6 e7 e8 e9 e10 e11 e12 e13 e14
  obtain ⟨Q, hz⟩ : ∃ x, x = b 14 := ⟨_, rfl⟩
  rw [← hz] at le14 f15 ⊢
  clear hz
  clear d s b
  have HQ := Lib.hid f15
  have nQS : Q ≠ S := by have := HS.out.lt; omega
  have nQR : Q ≠ R := by have := HR.out.lt; omega
  have nRQ := Ne.symm nQR
  have nSQ := Ne.symm nQS
  clear f15 QC V0 V1 V2 V3
  have HSk := Lib.hid (HS.out.later hB)
  have HRk := Lib.hid (HR.out.later hB)
  clear HS HR
  have HS := HSk
  clear HSk
  have HR := HRk
  clear HRk
  have hB1 := Below.go hB0 hB
  clear hB0 hB le14
  have hB0 := hB1
  clear hB1
  go_upto_region 2 with fail
  have oQ := HQ.out
  have Q0 := oQ.at 0 _ rfl
  have Q1 := oQ.at 1 _ rfl
  have Q2 := oQ.at 2 _ rfl
  have Q3 := oQ.at 3 _ rfl
  have Ql := oQ.lt
  clear oQ
  have oS := HS.out
  have s0 := oS.at a0 _ (nums_at _ _ A0.out); have s1 := oS.at a1 _ (nums_at _ _ A1.out); have s2 := oS.at a2 _ (nums_at _ _ A2.out); have s3 := oS.at a3 _ (nums_at _ _ A3.out)
  have t0 := oS.ok a0 (by rw [nums_length]; exact A0.out); have t1 := oS.ok a1 (by rw [nums_length]; exact A1.out); have t2 := oS.ok a2 (by rw [nums_length]; exact A2.out); have t3 := oS.ok a3 (by rw [nums_length]; exact A3.out)
  have Sl := oS.lt
  clear oS
  obtain ⟨n01, n02, n03, n12, n13, n23⟩ := N.out
  have n10 := Ne.symm n01; have n20 := Ne.symm n02; have n30 := Ne.symm n03; have n21 := Ne.symm n12; have n31 := Ne.symm n13; have n32 := Ne.symm n23
  go_region_held3 (fun w' => w'.cell? ⟨Q, 0, none⟩ = some (.int .u32 p0) ∧ w'.cell? ⟨Q, 1, none⟩ = some (.int .u32 p1) ∧ w'.cell? ⟨Q, 2, none⟩ = some (.int .u32 p2) ∧ w'.cell? ⟨Q, 3, none⟩ = some (.int .u32 p3)) (exact ⟨by simp [go_sem, *], by simp [go_sem, *], by simp [go_sem, *], by simp [go_sem, *]⟩) (fail)
  clear Q0 Q1 Q2 Q3 Ql s0 t0 s1 t1 s2 t2 s3 t3 Sl n01 n02 n03 n12 n13 n23 n10 n20 n30 n21 n31 n32
  have HSn : Hid (Own S (nums .u32 (at1 (at1 (at1 (at1 f a0 p0) a1 p1) a2 p2) a3 p3) 16) (World.drew ((((y1.setCell ⟨S, a0, none⟩ (.int .u32 p0)).setCell ⟨S, a1, none⟩ (.int .u32 p1)).setCell ⟨S, a2, none⟩ (.int .u32 p2)).setCell ⟨S, a3, none⟩ (.int .u32 p3)))) := Lib.hid (show Own S (nums .u32 (at1 (at1 (at1 (at1 f a0 p0) a1 p1) a2 p2) a3 p3) 16) (World.drew ((((y1.setCell ⟨S, a0, none⟩ (.int .u32 p0)).setCell ⟨S, a1, none⟩ (.int .u32 p1)).setCell ⟨S, a2, none⟩ (.int .u32 p2)).setCell ⟨S, a3, none⟩ (.int .u32 p3))) from Own.drew (own_set (i := a3) (v := p3) (own_set (i := a2) (v := p2) (own_set (i := a1) (v := p1) (own_set (i := a0) (v := p0) HS.out A0.out) A1.out) A2.out) A3.out))
  have HRn : Hid (Own R ([.int .u32 0, .int .u32 0, .int .u32 0, .int .u32 0, .int .u32 0, .int .u32 0, .int .u32 0, .int .u32 0, .int .u32 0, .int .u32 0, .int .u32 0, .int .u32 0, .int .u32 0, .int .u32 0, .int .u32 0, .int .u32 0]) (World.drew ((((y1.setCell ⟨S, a0, none⟩ (.int .u32 p0)).setCell ⟨S, a1, none⟩ (.int .u32 p1)).setCell ⟨S, a2, none⟩ (.int .u32 p2)).setCell ⟨S, a3, none⟩ (.int .u32 p3)))) := Lib.hid (show Own R _ (World.drew ((((y1.setCell ⟨S, a0, none⟩ (.int .u32 p0)).setCell ⟨S, a1, none⟩ (.int .u32 p1)).setCell ⟨S, a2, none⟩ (.int .u32 p2)).setCell ⟨S, a3, none⟩ (.int .u32 p3))) from Own.drew (Own.far (c := S) (o := a3) (vs := [.int .u32 p3]) (Own.far (c := S) (o := a2) (vs := [.int .u32 p2]) (Own.far (c := S) (o := a1) (vs := [.int .u32 p1]) (Own.far (c := S) (o := a0) (vs := [.int .u32 p0]) HR.out nRS) nRS) nRS) nRS))
  have hBn : Below w.heap.size w (World.drew ((((y1.setCell ⟨S, a0, none⟩ (.int .u32 p0)).setCell ⟨S, a1, none⟩ (.int .u32 p1)).setCell ⟨S, a2, none⟩ (.int .u32 p2)).setCell ⟨S, a3, none⟩ (.int .u32 p3))) := show Below _ _ (World.drew ((((y1.setCell ⟨S, a0, none⟩ (.int .u32 p0)).setCell ⟨S, a1, none⟩ (.int .u32 p1)).setCell ⟨S, a2, none⟩ (.int .u32 p2)).setCell ⟨S, a3, none⟩ (.int .u32 p3))) from Below.drew (Below.setCells (Below.setCells (Below.setCells (Below.setCells hB0 Sw [.int .u32 p0] a0) Sw [.int .u32 p1] a1) Sw [.int .u32 p2] a2) Sw [.int .u32 p3] a3)
  clear HS HR hB0 HQ
  generalize (World.drew ((((y1.setCell ⟨S, a0, none⟩ (.int .u32 p0)).setCell ⟨S, a1, none⟩ (.int .u32 p1)).setCell ⟨S, a2, none⟩ (.int .u32 p2)).setCell ⟨S, a3, none⟩ (.int .u32 p3))) = y2 at *
  have HS := HSn; have HR := HRn; have hB0 := hBn
  clear HSn HRn hBn
  go_upto_region 3 with fail
  refine wp_region_lit ?_
  refine wpList_load_mid rfl 56 _ rfl S 0 rfl (nums .u32 (at1 (at1 (at1 (at1 f a0 p0) a1 p1) a2 p2) a3 p3) 16) _ HS.out.cell Tryd.underlying56 rfl (by kernel_rfl) ?_
  refine wpList_store_mid rfl 56 _ _ rfl R 0 (nums .u32 (at1 (at1 (at1 (at1 f a0 p0) a1 p1) a2 p2) a3 p3) 16).toArray rfl rfl HR.out.free (by kernel_rfl) (all_oneCell_toArray (nums_one _ _ _)) ?_
  change wpList _ _ _ [] _ (y2.setCells R 0 (nums .u32 (at1 (at1 (at1 (at1 f a0 p0) a1 p1) a2 p2) a3 p3) 16))
  have HRn : Hid (Own R (nums .u32 (at1 (at1 (at1 (at1 f a0 p0) a1 p1) a2 p2) a3 p3) 16) (y2.setCells R 0 (nums .u32 (at1 (at1 (at1 (at1 f a0 p0) a1 p1) a2 p2) a3 p3) 16))) := Lib.hid (Own.store HR.out rfl)
  have HSn : Hid (Own S (nums .u32 (at1 (at1 (at1 (at1 f a0 p0) a1 p1) a2 p2) a3 p3) 16) (y2.setCells R 0 (nums .u32 (at1 (at1 (at1 (at1 f a0 p0) a1 p1) a2 p2) a3 p3) 16))) := Lib.hid (Own.far (o := 0) (vs := (nums .u32 (at1 (at1 (at1 (at1 f a0 p0) a1 p1) a2 p2) a3 p3) 16)) HS.out nSR)
  have hB0n : Below w.heap.size w (y2.setCells R 0 (nums .u32 (at1 (at1 (at1 (at1 f a0 p0) a1 p1) a2 p2) a3 p3) 16)) := Below.setCells hB0 Rw (nums .u32 (at1 (at1 (at1 (at1 f a0 p0) a1 p1) a2 p2) a3 p3) 16) 0
  clear HR HS hB0
  generalize (y2.setCells R 0 (nums .u32 (at1 (at1 (at1 (at1 f a0 p0) a1 p1) a2 p2) a3 p3) 16)) = w3 at *
  have HR := HRn
  clear HRn
  have HS := HSn
  clear HSn
  have hB0 := hB0n
  clear hB0n
  go_wp2_with (fail)
  have hL := run_loadVar_mid (P := Tryd.prog) _ R 0 56 (nums .u32 (at1 (at1 (at1 (at1 f a0 p0) a1 p1) a2 p2) a3 p3) 16) _ HR.out.cell Tryd.underlying56 rfl (by kernel_rfl)
  exact bodyPost_ret (v := .agg (nums .u32 (at1 (at1 (at1 (at1 f a0 p0) a1 p1) a2 p2) a3 p3) 16).toArray) (res_cell Tryd.results24 rfl hL) rfl ⟨rfl, hB0⟩
end Go.Proofs.YtbepgbpmgiihbaaDoor
