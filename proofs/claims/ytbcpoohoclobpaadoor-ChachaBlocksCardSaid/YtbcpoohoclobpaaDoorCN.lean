/- ChachaBlocks: the walk. -/
import Derived.Test.YtbcpoohoclobpaaDoorCL
import Derived.Test.YtbcpoohoclobpaaDoorCK
namespace Go.Proofs.YtbcpoohoclobpaaDoor
set_option linter.unusedVariables false
set_option maxRecDepth 2000
set_option linter.unusedSimpArgs false
open Go.RowKit
theorem eqin_nums {P : Program} {t e n : Nat} {k : IntKind} {f : Nat → Int} {w : World} (ht : P.underlying t = some (.array n e)) (he : P.underlying e = some (.int k)) (hs : (sizeOf e).run P w = .ok 1 w) (ha : (isAgg e).run P w = .ok false w) :
    (Op.equalIn 10000 t (.agg (nums k f n).toArray) (.agg (nums k f n).toArray)).run P w = .ok true w := eq_nums (n := n) 9998 ht he hs ha

set_option maxHeartbeats 8000000 in
theorem Blocks_core (kf nf : Nat → Int) (c : Int) (hk : ∀ i, i < 32 → inB (kf i)) (hn : ∀ i, i < 12 → inB (nf i)) (hc : in32 c) (w : World) (hg : Has 0 0 GL w) :
    Calls Tryd.prog 3 #[(.agg (nums .u8 kf 32).toArray), .int .u32 c, (.agg (nums .u8 nf 12).toArray)] w fun e w' => e = .returned (.bool true) ∧ Below w.heap.size w w' := by
  have FK := Lib.hid hk; have FN := Lib.hid hn; have FC := Lib.hid hc; have HG0 := Lib.hid hg
  clear hk hn hc hg
  go_enter Tryd.func3, Tryd.ntmps3
  go_upto_region 1 with fail
  obtain ⟨W0, hW⟩ : ∃ W0, W0 = ((w.alloc (.cells (nums .u8 kf 32).toArray 22)).alloc (.cells (nums .u8 nf 12).toArray 24)) := ⟨_, rfl⟩
  have hB0 : Below w.heap.size w W0 := hW ▸ (Below.al (Below.al (Below.refl _ _)))
  have HK : Hid (Own w.heap.size (nums .u8 kf 32) W0) := Lib.hid (hW ▸ (show Own w.heap.size (nums .u8 kf 32) (w.alloc (.cells (nums .u8 kf 32).toArray 22)) from Own.newAt (by simp)).alloc)
  have HM : Hid (Own (w.heap.size + 1) (nums .u8 nf 12) W0) := Lib.hid (hW ▸ (show Own (w.heap.size + 1) (nums .u8 nf 12) ((w.alloc (.cells (nums .u8 kf 32).toArray 22)).alloc (.cells (nums .u8 nf 12).toArray 24)) from Own.newAt (by simp)))
  rw [← hW]
  clear hW
  obtain ⟨M, eM⟩ : ∃ X, X = (w.heap.size + 1) := ⟨_, rfl⟩
  rw [← eM] at HM ⊢
  have Mw : w.heap.size ≤ M := by omega
  obtain ⟨Y, eY⟩ : ∃ X, X = w.heap.size := ⟨_, rfl⟩
  rw [← eY] at HK ⊢
  have Yw : w.heap.size ≤ Y := by omega
  have nYM : Y ≠ M := by omega
  have nMY : M ≠ Y := by omega
  clear eY eM
  have HG := Lib.hid (HG0.out.later hB0)
  clear HG0
  refine wp_region_fun 24 (by kernel_rfl) (by kernel_rfl) rfl (fun s b => ⟨#[(.agg (nums .u8 kf 32).toArray), .int .u32 c, (.agg (nums .u8 nf 12).toArray), .pointer (some ⟨Y, 0, none⟩), undef, .pointer (some ⟨M, 0, none⟩), s 6, s 7, s 8, s 9, s 10, s 11, s 12, s 13, s 14, s 15, s 16, s 17, s 18, s 19, s 20, s 21, s 22, s 23, s 24, s 25, s 26, s 27, s 28, s 29], []⟩) (fun d s b w => (Below W0.heap.size W0 w) ∧ (d 0 = true → s 7 = (.agg (nums .u8 kf 32).toArray)) ∧ (d 1 = true → s 8 = .int .u32 c) ∧ (d 2 = true → s 9 = (.agg (nums .u8 nf 12).toArray)) ∧ (d 3 = true → s 10 = (.agg (nums .u32 (stF kf c nf) 16).toArray)) ∧ (d 4 = true → s 11 = (.agg (nums .u8 kf 32).toArray)) ∧ (d 5 = true → s 12 = .int .u32 c) ∧ (d 6 = true → s 13 = (.agg (nums .u8 nf 12).toArray)) ∧ (d 7 = true → s 14 = (.agg (nums .u32 (stF kf c nf) 16).toArray)) ∧ (d 8 = true → s 15 = .bool true) ∧ (d 9 = true → s 16 = .bool true) ∧ (d 10 = true → s 17 = (.agg (nums .u8 kf 32).toArray)) ∧ (d 11 = true → s 18 = .int .u32 c) ∧ (d 12 = true → s 19 = (.agg (nums .u8 nf 12).toArray)) ∧ (d 13 = true → s 20 = (.agg (nums .u8 (blkF kf c nf) 64).toArray)) ∧ (d 14 = true → s 21 = (.agg (nums .u8 kf 32).toArray)) ∧ (d 15 = true → s 22 = .int .u32 c) ∧ (d 16 = true → s 23 = (.agg (nums .u8 nf 12).toArray)) ∧ (d 17 = true → s 24 = (.agg (nums .u8 (blkF kf c nf) 64).toArray)) ∧ (d 18 = true → s 25 = .bool true) ∧ (d 19 = true → s 26 = .bool true) ∧ (d 20 = true → s 27 = .bool true) ∧ (d 21 = true → s 28 = .bool true) ∧ (d 22 = true → s 29 = .bool true) ∧ (d 23 = true → s 6 = .bool true)) rfl ?h0y1 (?sty1 : StepsF _ _ _ _ 24 _ _ [0, 1, 2, 3, 4, 5, 6, 7, 8, 9, 10, 11, 12, 13, 14, 15, 16, 17, 18, 19, 20, 21, 22, 23]) ?dny1
  case h0y1 => exact ⟨Below.drew (Below.refl _ _), (fun h => nomatch h), (fun h => nomatch h), (fun h => nomatch h), (fun h => nomatch h), (fun h => nomatch h), (fun h => nomatch h), (fun h => nomatch h), (fun h => nomatch h), (fun h => nomatch h), (fun h => nomatch h), (fun h => nomatch h), (fun h => nomatch h), (fun h => nomatch h), (fun h => nomatch h), (fun h => nomatch h), (fun h => nomatch h), (fun h => nomatch h), (fun h => nomatch h), (fun h => nomatch h), (fun h => nomatch h), (fun h => nomatch h), (fun h => nomatch h), (fun h => nomatch h), (fun h => nomatch h)⟩
  case sty1 =>
    refine StepsF.cons (o := _) rfl (ws := []) (by kernel_rfl) (by decide) (fun d s b w hF hd hw K hK => ?_) ?_
    · have hB : Below W0.heap.size W0 w := (p0_ hF.out)
      refine step_load (by simp [Region.wanted]) 22 _ rfl Y 0 rfl (nums .u8 kf 32) _ (HK.out.later hB).cell Tryd.underlying22 rfl (by kernel_rfl) ?_
      exact hK.out (ups s 7 ((.agg (nums .u8 kf 32).toArray))) b _ ⟨hB, (fun _ => rfl), (p2_ hF.out), (p3_ hF.out), (p4_ hF.out), (p5_ hF.out), (p6_ hF.out), (p7_ hF.out), (p8_ hF.out), (p9_ hF.out), (p10_ hF.out), (p11_ hF.out), (p12_ hF.out), (p13_ hF.out), (p14_ hF.out), (p15_ hF.out), (p16_ hF.out), (p17_ hF.out), (p18_ hF.out), (p19_ hF.out), (p20_ hF.out), (p21_ hF.out), (p22_ hF.out), (p23_ hF.out), (q24_ hF.out)⟩
    refine StepsF.cons (o := _) rfl (ws := []) (by kernel_rfl) (by decide) (fun d s b w hF hd hw K hK => ?_) ?_
    · have hB : Below W0.heap.size W0 w := (p0_ hF.out)
      dsimp only
      go_simp
      exact hK.out (ups s 8 (.int .u32 c)) b _ ⟨hB, (p1_ hF.out), (fun _ => rfl), (p3_ hF.out), (p4_ hF.out), (p5_ hF.out), (p6_ hF.out), (p7_ hF.out), (p8_ hF.out), (p9_ hF.out), (p10_ hF.out), (p11_ hF.out), (p12_ hF.out), (p13_ hF.out), (p14_ hF.out), (p15_ hF.out), (p16_ hF.out), (p17_ hF.out), (p18_ hF.out), (p19_ hF.out), (p20_ hF.out), (p21_ hF.out), (p22_ hF.out), (p23_ hF.out), (q24_ hF.out)⟩
    refine StepsF.cons (o := _) rfl (ws := []) (by kernel_rfl) (by decide) (fun d s b w hF hd hw K hK => ?_) ?_
    · have hB : Below W0.heap.size W0 w := (p0_ hF.out)
      refine step_load (by simp [Region.wanted]) 24 _ rfl M 0 rfl (nums .u8 nf 12) _ (HM.out.later hB).cell Tryd.underlying24 rfl (by kernel_rfl) ?_
      exact hK.out (ups s 9 ((.agg (nums .u8 nf 12).toArray))) b _ ⟨hB, (p1_ hF.out), (p2_ hF.out), (fun _ => rfl), (p4_ hF.out), (p5_ hF.out), (p6_ hF.out), (p7_ hF.out), (p8_ hF.out), (p9_ hF.out), (p10_ hF.out), (p11_ hF.out), (p12_ hF.out), (p13_ hF.out), (p14_ hF.out), (p15_ hF.out), (p16_ hF.out), (p17_ hF.out), (p18_ hF.out), (p19_ hF.out), (p20_ hF.out), (p21_ hF.out), (p22_ hF.out), (p23_ hF.out), (q24_ hF.out)⟩
    refine StepsF.cons (o := _) rfl (ws := [0, 1, 2]) (by kernel_rfl) (by decide) (fun d s b w hF hd hw K hK => ?_) ?_
    · have hB : Below W0.heap.size W0 w := (p0_ hF.out)
      have e0 : s 7 = (.agg (nums .u8 kf 32).toArray) := (p1_ hF.out) (hw 0 (by decide))
      have e1 : s 8 = .int .u32 c := (p2_ hF.out) (hw 1 (by decide))
      have e2 : s 9 = (.agg (nums .u8 nf 12).toArray) := (p3_ hF.out) (hw 2 (by decide))
      dsimp only
      go_simp
      go_at_call 7
      refine (State_any kf nf c FK.out FN.out _).mono ?_
      rintro e w1 ⟨rfl, hb⟩
      exact hK.out (ups (ups (ups (ups s 7 ((.agg (nums .u8 kf 32).toArray))) 8 (.int .u32 c)) 9 ((.agg (nums .u8 nf 12).toArray))) 10 ((.agg (nums .u32 (stF kf c nf) 16).toArray))) b _ ⟨(Below.go hB hb), (fun _ => rfl), (fun _ => rfl), (fun _ => rfl), (fun _ => rfl), (p5_ hF.out), (p6_ hF.out), (p7_ hF.out), (p8_ hF.out), (p9_ hF.out), (p10_ hF.out), (p11_ hF.out), (p12_ hF.out), (p13_ hF.out), (p14_ hF.out), (p15_ hF.out), (p16_ hF.out), (p17_ hF.out), (p18_ hF.out), (p19_ hF.out), (p20_ hF.out), (p21_ hF.out), (p22_ hF.out), (p23_ hF.out), (q24_ hF.out)⟩
    refine StepsF.cons (o := _) rfl (ws := []) (by kernel_rfl) (by decide) (fun d s b w hF hd hw K hK => ?_) ?_
    · have hB : Below W0.heap.size W0 w := (p0_ hF.out)
      refine step_load (by simp [Region.wanted]) 22 _ rfl Y 0 rfl (nums .u8 kf 32) _ (HK.out.later hB).cell Tryd.underlying22 rfl (by kernel_rfl) ?_
      exact hK.out (ups s 11 ((.agg (nums .u8 kf 32).toArray))) b _ ⟨hB, (p1_ hF.out), (p2_ hF.out), (p3_ hF.out), (p4_ hF.out), (fun _ => rfl), (p6_ hF.out), (p7_ hF.out), (p8_ hF.out), (p9_ hF.out), (p10_ hF.out), (p11_ hF.out), (p12_ hF.out), (p13_ hF.out), (p14_ hF.out), (p15_ hF.out), (p16_ hF.out), (p17_ hF.out), (p18_ hF.out), (p19_ hF.out), (p20_ hF.out), (p21_ hF.out), (p22_ hF.out), (p23_ hF.out), (q24_ hF.out)⟩
    refine StepsF.cons (o := _) rfl (ws := []) (by kernel_rfl) (by decide) (fun d s b w hF hd hw K hK => ?_) ?_
    · have hB : Below W0.heap.size W0 w := (p0_ hF.out)
      dsimp only
      go_simp
      exact hK.out (ups s 12 (.int .u32 c)) b _ ⟨hB, (p1_ hF.out), (p2_ hF.out), (p3_ hF.out), (p4_ hF.out), (p5_ hF.out), (fun _ => rfl), (p7_ hF.out), (p8_ hF.out), (p9_ hF.out), (p10_ hF.out), (p11_ hF.out), (p12_ hF.out), (p13_ hF.out), (p14_ hF.out), (p15_ hF.out), (p16_ hF.out), (p17_ hF.out), (p18_ hF.out), (p19_ hF.out), (p20_ hF.out), (p21_ hF.out), (p22_ hF.out), (p23_ hF.out), (q24_ hF.out)⟩
    refine StepsF.cons (o := _) rfl (ws := []) (by kernel_rfl) (by decide) (fun d s b w hF hd hw K hK => ?_) ?_
    · have hB : Below W0.heap.size W0 w := (p0_ hF.out)
      refine step_load (by simp [Region.wanted]) 24 _ rfl M 0 rfl (nums .u8 nf 12) _ (HM.out.later hB).cell Tryd.underlying24 rfl (by kernel_rfl) ?_
      exact hK.out (ups s 13 ((.agg (nums .u8 nf 12).toArray))) b _ ⟨hB, (p1_ hF.out), (p2_ hF.out), (p3_ hF.out), (p4_ hF.out), (p5_ hF.out), (p6_ hF.out), (fun _ => rfl), (p8_ hF.out), (p9_ hF.out), (p10_ hF.out), (p11_ hF.out), (p12_ hF.out), (p13_ hF.out), (p14_ hF.out), (p15_ hF.out), (p16_ hF.out), (p17_ hF.out), (p18_ hF.out), (p19_ hF.out), (p20_ hF.out), (p21_ hF.out), (p22_ hF.out), (p23_ hF.out), (q24_ hF.out)⟩
    refine StepsF.cons (o := _) rfl (ws := [4, 5, 6, 3]) (by kernel_rfl) (by decide) (fun d s b w hF hd hw K hK => ?_) ?_
    · have hB : Below W0.heap.size W0 w := (p0_ hF.out)
      have e3 : s 10 = (.agg (nums .u32 (stF kf c nf) 16).toArray) := (p4_ hF.out) (hw 3 (by decide))
      have e4 : s 11 = (.agg (nums .u8 kf 32).toArray) := (p5_ hF.out) (hw 4 (by decide))
      have e5 : s 12 = .int .u32 c := (p6_ hF.out) (hw 5 (by decide))
      have e6 : s 13 = (.agg (nums .u8 nf 12).toArray) := (p7_ hF.out) (hw 6 (by decide))
      dsimp only
      go_simp
      go_at_call 8
      refine (RState_any kf nf c FK.out FN.out _).mono ?_
      rintro e w1 ⟨rfl, hb⟩
      exact hK.out (ups (ups (ups (ups (ups s 10 ((.agg (nums .u32 (stF kf c nf) 16).toArray))) 11 ((.agg (nums .u8 kf 32).toArray))) 12 (.int .u32 c)) 13 ((.agg (nums .u8 nf 12).toArray))) 14 ((.agg (nums .u32 (stF kf c nf) 16).toArray))) b _ ⟨(Below.go hB hb), (p1_ hF.out), (p2_ hF.out), (p3_ hF.out), (fun _ => rfl), (fun _ => rfl), (fun _ => rfl), (fun _ => rfl), (fun _ => rfl), (p9_ hF.out), (p10_ hF.out), (p11_ hF.out), (p12_ hF.out), (p13_ hF.out), (p14_ hF.out), (p15_ hF.out), (p16_ hF.out), (p17_ hF.out), (p18_ hF.out), (p19_ hF.out), (p20_ hF.out), (p21_ hF.out), (p22_ hF.out), (p23_ hF.out), (q24_ hF.out)⟩
    refine StepsF.cons (o := _) rfl (ws := [3, 7]) (by kernel_rfl) (by decide) (fun d s b w hF hd hw K hK => ?_) ?_
    · have hB : Below W0.heap.size W0 w := (p0_ hF.out)
      have e3 : s 10 = (.agg (nums .u32 (stF kf c nf) 16).toArray) := (p4_ hF.out) (hw 3 (by decide))
      have e7 : s 14 = (.agg (nums .u32 (stF kf c nf) 16).toArray) := (p8_ hF.out) (hw 7 (by decide))
      dsimp only
      have hq := eqin_nums (P := Tryd.prog) (f := stF kf c nf) (n := 16) (w := w) Tryd.underlying25 Tryd.underlying23 (by simp [go_sem]) (by simp [go_sem])
      go_simp
      exact hK.out (ups (ups (ups s 10 ((.agg (nums .u32 (stF kf c nf) 16).toArray))) 14 ((.agg (nums .u32 (stF kf c nf) 16).toArray))) 15 (.bool true)) b _ ⟨hB, (p1_ hF.out), (p2_ hF.out), (p3_ hF.out), (fun _ => rfl), (p5_ hF.out), (p6_ hF.out), (p7_ hF.out), (fun _ => rfl), (fun _ => rfl), (p10_ hF.out), (p11_ hF.out), (p12_ hF.out), (p13_ hF.out), (p14_ hF.out), (p15_ hF.out), (p16_ hF.out), (p17_ hF.out), (p18_ hF.out), (p19_ hF.out), (p20_ hF.out), (p21_ hF.out), (p22_ hF.out), (p23_ hF.out), (q24_ hF.out)⟩
    refine StepsF.cons (o := _) rfl (ws := [8, 7]) (by kernel_rfl) (by decide) (fun d s b w hF hd hw K hK => ?_) ?_
    · have hB : Below W0.heap.size W0 w := (p0_ hF.out)
      have e7 : s 14 = (.agg (nums .u32 (stF kf c nf) 16).toArray) := (p8_ hF.out) (hw 7 (by decide))
      have e8 : s 15 = .bool true := (p9_ hF.out) (hw 8 (by decide))
      dsimp only
      go_simp
      exact hK.out (ups (ups (ups s 14 ((.agg (nums .u32 (stF kf c nf) 16).toArray))) 15 (.bool true)) 16 (.bool true)) b _ ⟨hB, (p1_ hF.out), (p2_ hF.out), (p3_ hF.out), (p4_ hF.out), (p5_ hF.out), (p6_ hF.out), (p7_ hF.out), (fun _ => rfl), (fun _ => rfl), (fun _ => rfl), (p11_ hF.out), (p12_ hF.out), (p13_ hF.out), (p14_ hF.out), (p15_ hF.out), (p16_ hF.out), (p17_ hF.out), (p18_ hF.out), (p19_ hF.out), (p20_ hF.out), (p21_ hF.out), (p22_ hF.out), (p23_ hF.out), (q24_ hF.out)⟩
    refine StepsF.cons (o := _) rfl (ws := [9]) (by kernel_rfl) (by decide) (fun d s b w hF hd hw K hK => ?_) ?_
    · have hB : Below W0.heap.size W0 w := (p0_ hF.out)
      have e9 : s 16 = .bool true := (p10_ hF.out) (hw 9 (by decide))
      refine step_load (by simp [Region.wanted, yielded, e9]) 22 _ rfl Y 0 rfl (nums .u8 kf 32) _ (HK.out.later hB).cell Tryd.underlying22 rfl (by kernel_rfl) ?_
      exact hK.out (ups s 17 ((.agg (nums .u8 kf 32).toArray))) b _ ⟨hB, (p1_ hF.out), (p2_ hF.out), (p3_ hF.out), (p4_ hF.out), (p5_ hF.out), (p6_ hF.out), (p7_ hF.out), (p8_ hF.out), (p9_ hF.out), (p10_ hF.out), (fun _ => rfl), (p12_ hF.out), (p13_ hF.out), (p14_ hF.out), (p15_ hF.out), (p16_ hF.out), (p17_ hF.out), (p18_ hF.out), (p19_ hF.out), (p20_ hF.out), (p21_ hF.out), (p22_ hF.out), (p23_ hF.out), (q24_ hF.out)⟩
    refine StepsF.cons (o := _) rfl (ws := [9]) (by kernel_rfl) (by decide) (fun d s b w hF hd hw K hK => ?_) ?_
    · have hB : Below W0.heap.size W0 w := (p0_ hF.out)
      have e9 : s 16 = .bool true := (p10_ hF.out) (hw 9 (by decide))
      dsimp only
      go_simp
      exact hK.out (ups (ups s 16 (.bool true)) 18 (.int .u32 c)) b _ ⟨hB, (p1_ hF.out), (p2_ hF.out), (p3_ hF.out), (p4_ hF.out), (p5_ hF.out), (p6_ hF.out), (p7_ hF.out), (p8_ hF.out), (p9_ hF.out), (fun _ => rfl), (p11_ hF.out), (fun _ => rfl), (p13_ hF.out), (p14_ hF.out), (p15_ hF.out), (p16_ hF.out), (p17_ hF.out), (p18_ hF.out), (p19_ hF.out), (p20_ hF.out), (p21_ hF.out), (p22_ hF.out), (p23_ hF.out), (q24_ hF.out)⟩
    refine StepsF.cons (o := _) rfl (ws := [9]) (by kernel_rfl) (by decide) (fun d s b w hF hd hw K hK => ?_) ?_
    · have hB : Below W0.heap.size W0 w := (p0_ hF.out)
      have e9 : s 16 = .bool true := (p10_ hF.out) (hw 9 (by decide))
      refine step_load (by simp [Region.wanted, yielded, e9]) 24 _ rfl M 0 rfl (nums .u8 nf 12) _ (HM.out.later hB).cell Tryd.underlying24 rfl (by kernel_rfl) ?_
      exact hK.out (ups s 19 ((.agg (nums .u8 nf 12).toArray))) b _ ⟨hB, (p1_ hF.out), (p2_ hF.out), (p3_ hF.out), (p4_ hF.out), (p5_ hF.out), (p6_ hF.out), (p7_ hF.out), (p8_ hF.out), (p9_ hF.out), (p10_ hF.out), (p11_ hF.out), (p12_ hF.out), (fun _ => rfl), (p14_ hF.out), (p15_ hF.out), (p16_ hF.out), (p17_ hF.out), (p18_ hF.out), (p19_ hF.out), (p20_ hF.out), (p21_ hF.out), (p22_ hF.out), (p23_ hF.out), (q24_ hF.out)⟩
    refine StepsF.cons (o := _) rfl (ws := [10, 11, 12, 9, 9]) (by kernel_rfl) (by decide) (fun d s b w hF hd hw K hK => ?_) ?_
    · have hB : Below W0.heap.size W0 w := (p0_ hF.out)
      have e9 : s 16 = .bool true := (p10_ hF.out) (hw 9 (by decide))
      have e10 : s 17 = (.agg (nums .u8 kf 32).toArray) := (p11_ hF.out) (hw 10 (by decide))
      have e11 : s 18 = .int .u32 c := (p12_ hF.out) (hw 11 (by decide))
      have e12 : s 19 = (.agg (nums .u8 nf 12).toArray) := (p13_ hF.out) (hw 12 (by decide))
      dsimp only
      go_simp
      go_at_call 9
      refine (Block_any kf nf c FK.out FN.out FC.out _ (HG.out.later hB)).mono ?_
      rintro e w1 ⟨rfl, hb⟩
      exact hK.out (ups (ups (ups (ups (ups s 16 (.bool true)) 17 ((.agg (nums .u8 kf 32).toArray))) 18 (.int .u32 c)) 19 ((.agg (nums .u8 nf 12).toArray))) 20 ((.agg (nums .u8 (blkF kf c nf) 64).toArray))) b _ ⟨(Below.go hB hb), (p1_ hF.out), (p2_ hF.out), (p3_ hF.out), (p4_ hF.out), (p5_ hF.out), (p6_ hF.out), (p7_ hF.out), (p8_ hF.out), (p9_ hF.out), (fun _ => rfl), (fun _ => rfl), (fun _ => rfl), (fun _ => rfl), (fun _ => rfl), (p15_ hF.out), (p16_ hF.out), (p17_ hF.out), (p18_ hF.out), (p19_ hF.out), (p20_ hF.out), (p21_ hF.out), (p22_ hF.out), (p23_ hF.out), (q24_ hF.out)⟩
    refine StepsF.cons (o := _) rfl (ws := [9]) (by kernel_rfl) (by decide) (fun d s b w hF hd hw K hK => ?_) ?_
    · have hB : Below W0.heap.size W0 w := (p0_ hF.out)
      have e9 : s 16 = .bool true := (p10_ hF.out) (hw 9 (by decide))
      refine step_load (by simp [Region.wanted, yielded, e9]) 22 _ rfl Y 0 rfl (nums .u8 kf 32) _ (HK.out.later hB).cell Tryd.underlying22 rfl (by kernel_rfl) ?_
      exact hK.out (ups s 21 ((.agg (nums .u8 kf 32).toArray))) b _ ⟨hB, (p1_ hF.out), (p2_ hF.out), (p3_ hF.out), (p4_ hF.out), (p5_ hF.out), (p6_ hF.out), (p7_ hF.out), (p8_ hF.out), (p9_ hF.out), (p10_ hF.out), (p11_ hF.out), (p12_ hF.out), (p13_ hF.out), (p14_ hF.out), (fun _ => rfl), (p16_ hF.out), (p17_ hF.out), (p18_ hF.out), (p19_ hF.out), (p20_ hF.out), (p21_ hF.out), (p22_ hF.out), (p23_ hF.out), (q24_ hF.out)⟩
    refine StepsF.cons (o := _) rfl (ws := [9]) (by kernel_rfl) (by decide) (fun d s b w hF hd hw K hK => ?_) ?_
    · have hB : Below W0.heap.size W0 w := (p0_ hF.out)
      have e9 : s 16 = .bool true := (p10_ hF.out) (hw 9 (by decide))
      dsimp only
      go_simp
      exact hK.out (ups (ups s 16 (.bool true)) 22 (.int .u32 c)) b _ ⟨hB, (p1_ hF.out), (p2_ hF.out), (p3_ hF.out), (p4_ hF.out), (p5_ hF.out), (p6_ hF.out), (p7_ hF.out), (p8_ hF.out), (p9_ hF.out), (fun _ => rfl), (p11_ hF.out), (p12_ hF.out), (p13_ hF.out), (p14_ hF.out), (p15_ hF.out), (fun _ => rfl), (p17_ hF.out), (p18_ hF.out), (p19_ hF.out), (p20_ hF.out), (p21_ hF.out), (p22_ hF.out), (p23_ hF.out), (q24_ hF.out)⟩
    refine StepsF.cons (o := _) rfl (ws := [9]) (by kernel_rfl) (by decide) (fun d s b w hF hd hw K hK => ?_) ?_
    · have hB : Below W0.heap.size W0 w := (p0_ hF.out)
      have e9 : s 16 = .bool true := (p10_ hF.out) (hw 9 (by decide))
      refine step_load (by simp [Region.wanted, yielded, e9]) 24 _ rfl M 0 rfl (nums .u8 nf 12) _ (HM.out.later hB).cell Tryd.underlying24 rfl (by kernel_rfl) ?_
      exact hK.out (ups s 23 ((.agg (nums .u8 nf 12).toArray))) b _ ⟨hB, (p1_ hF.out), (p2_ hF.out), (p3_ hF.out), (p4_ hF.out), (p5_ hF.out), (p6_ hF.out), (p7_ hF.out), (p8_ hF.out), (p9_ hF.out), (p10_ hF.out), (p11_ hF.out), (p12_ hF.out), (p13_ hF.out), (p14_ hF.out), (p15_ hF.out), (p16_ hF.out), (fun _ => rfl), (p18_ hF.out), (p19_ hF.out), (p20_ hF.out), (p21_ hF.out), (p22_ hF.out), (p23_ hF.out), (q24_ hF.out)⟩
    refine StepsF.cons (o := _) rfl (ws := [14, 15, 16, 13, 9]) (by kernel_rfl) (by decide) (fun d s b w hF hd hw K hK => ?_) ?_
    · have hB : Below W0.heap.size W0 w := (p0_ hF.out)
      have e9 : s 16 = .bool true := (p10_ hF.out) (hw 9 (by decide))
      have e13 : s 20 = (.agg (nums .u8 (blkF kf c nf) 64).toArray) := (p14_ hF.out) (hw 13 (by decide))
      have e14 : s 21 = (.agg (nums .u8 kf 32).toArray) := (p15_ hF.out) (hw 14 (by decide))
      have e15 : s 22 = .int .u32 c := (p16_ hF.out) (hw 15 (by decide))
      have e16 : s 23 = (.agg (nums .u8 nf 12).toArray) := (p17_ hF.out) (hw 16 (by decide))
      dsimp only
      go_simp
      go_at_call 10
      refine (RBlock_any kf nf c FK.out FN.out FC.out _).mono ?_
      rintro e w1 ⟨rfl, hb⟩
      exact hK.out (ups (ups (ups (ups (ups (ups s 16 (.bool true)) 20 ((.agg (nums .u8 (blkF kf c nf) 64).toArray))) 21 ((.agg (nums .u8 kf 32).toArray))) 22 (.int .u32 c)) 23 ((.agg (nums .u8 nf 12).toArray))) 24 ((.agg (nums .u8 (blkF kf c nf) 64).toArray))) b _ ⟨(Below.go hB hb), (p1_ hF.out), (p2_ hF.out), (p3_ hF.out), (p4_ hF.out), (p5_ hF.out), (p6_ hF.out), (p7_ hF.out), (p8_ hF.out), (p9_ hF.out), (fun _ => rfl), (p11_ hF.out), (p12_ hF.out), (p13_ hF.out), (fun _ => rfl), (fun _ => rfl), (fun _ => rfl), (fun _ => rfl), (fun _ => rfl), (p19_ hF.out), (p20_ hF.out), (p21_ hF.out), (p22_ hF.out), (p23_ hF.out), (q24_ hF.out)⟩
    refine StepsF.cons (o := _) rfl (ws := [13, 17, 9]) (by kernel_rfl) (by decide) (fun d s b w hF hd hw K hK => ?_) ?_
    · have hB : Below W0.heap.size W0 w := (p0_ hF.out)
      have e9 : s 16 = .bool true := (p10_ hF.out) (hw 9 (by decide))
      have e13 : s 20 = (.agg (nums .u8 (blkF kf c nf) 64).toArray) := (p14_ hF.out) (hw 13 (by decide))
      have e17 : s 24 = (.agg (nums .u8 (blkF kf c nf) 64).toArray) := (p18_ hF.out) (hw 17 (by decide))
      dsimp only
      have hq := eqin_nums (P := Tryd.prog) (f := blkF kf c nf) (n := 64) (w := w) Tryd.underlying27 Tryd.underlying5 (by simp [go_sem]) (by simp [go_sem])
      go_simp
      exact hK.out (ups (ups (ups (ups s 16 (.bool true)) 20 ((.agg (nums .u8 (blkF kf c nf) 64).toArray))) 24 ((.agg (nums .u8 (blkF kf c nf) 64).toArray))) 25 (.bool true)) b _ ⟨hB, (p1_ hF.out), (p2_ hF.out), (p3_ hF.out), (p4_ hF.out), (p5_ hF.out), (p6_ hF.out), (p7_ hF.out), (p8_ hF.out), (p9_ hF.out), (fun _ => rfl), (p11_ hF.out), (p12_ hF.out), (p13_ hF.out), (fun _ => rfl), (p15_ hF.out), (p16_ hF.out), (p17_ hF.out), (fun _ => rfl), (fun _ => rfl), (p20_ hF.out), (p21_ hF.out), (p22_ hF.out), (p23_ hF.out), (q24_ hF.out)⟩
    refine StepsF.cons (o := _) rfl (ws := [9, 18]) (by kernel_rfl) (by decide) (fun d s b w hF hd hw K hK => ?_) ?_
    · have hB : Below W0.heap.size W0 w := (p0_ hF.out)
      have e9 : s 16 = .bool true := (p10_ hF.out) (hw 9 (by decide))
      have e18 : s 25 = .bool true := (p19_ hF.out) (hw 18 (by decide))
      dsimp only
      go_simp
      exact hK.out (ups (ups (ups s 16 (.bool true)) 25 (.bool true)) 26 (.bool true)) b _ ⟨hB, (p1_ hF.out), (p2_ hF.out), (p3_ hF.out), (p4_ hF.out), (p5_ hF.out), (p6_ hF.out), (p7_ hF.out), (p8_ hF.out), (p9_ hF.out), (fun _ => rfl), (p11_ hF.out), (p12_ hF.out), (p13_ hF.out), (p14_ hF.out), (p15_ hF.out), (p16_ hF.out), (p17_ hF.out), (p18_ hF.out), (fun _ => rfl), (fun _ => rfl), (p21_ hF.out), (p22_ hF.out), (p23_ hF.out), (q24_ hF.out)⟩
    refine StepsF.cons (o := _) rfl (ws := [19, 17]) (by kernel_rfl) (by decide) (fun d s b w hF hd hw K hK => ?_) ?_
    · have hB : Below W0.heap.size W0 w := (p0_ hF.out)
      have e17 : s 24 = (.agg (nums .u8 (blkF kf c nf) 64).toArray) := (p18_ hF.out) (hw 17 (by decide))
      have e19 : s 26 = .bool true := (p20_ hF.out) (hw 19 (by decide))
      dsimp only
      go_simp
      exact hK.out (ups (ups (ups s 24 ((.agg (nums .u8 (blkF kf c nf) 64).toArray))) 26 (.bool true)) 27 (.bool true)) b _ ⟨hB, (p1_ hF.out), (p2_ hF.out), (p3_ hF.out), (p4_ hF.out), (p5_ hF.out), (p6_ hF.out), (p7_ hF.out), (p8_ hF.out), (p9_ hF.out), (p10_ hF.out), (p11_ hF.out), (p12_ hF.out), (p13_ hF.out), (p14_ hF.out), (p15_ hF.out), (p16_ hF.out), (p17_ hF.out), (fun _ => rfl), (p19_ hF.out), (fun _ => rfl), (fun _ => rfl), (p22_ hF.out), (p23_ hF.out), (q24_ hF.out)⟩
    refine StepsF.cons (o := _) rfl (ws := [20, 20]) (by kernel_rfl) (by decide) (fun d s b w hF hd hw K hK => ?_) ?_
    · have hB : Below W0.heap.size W0 w := (p0_ hF.out)
      have e20 : s 27 = .bool true := (p21_ hF.out) (hw 20 (by decide))
      dsimp only
      go_simp
      go_at_call 11
      refine (works_any _).mono ?_
      rintro e w1 ⟨rfl, hb⟩
      exact hK.out (ups (ups s 27 (.bool true)) 28 (.bool true)) b _ ⟨(Below.go hB hb), (p1_ hF.out), (p2_ hF.out), (p3_ hF.out), (p4_ hF.out), (p5_ hF.out), (p6_ hF.out), (p7_ hF.out), (p8_ hF.out), (p9_ hF.out), (p10_ hF.out), (p11_ hF.out), (p12_ hF.out), (p13_ hF.out), (p14_ hF.out), (p15_ hF.out), (p16_ hF.out), (p17_ hF.out), (p18_ hF.out), (p19_ hF.out), (p20_ hF.out), (fun _ => rfl), (fun _ => rfl), (p23_ hF.out), (q24_ hF.out)⟩
    refine StepsF.cons (o := _) rfl (ws := [20, 21]) (by kernel_rfl) (by decide) (fun d s b w hF hd hw K hK => ?_) ?_
    · have hB : Below W0.heap.size W0 w := (p0_ hF.out)
      have e20 : s 27 = .bool true := (p21_ hF.out) (hw 20 (by decide))
      have e21 : s 28 = .bool true := (p22_ hF.out) (hw 21 (by decide))
      dsimp only
      go_simp
      exact hK.out (ups (ups (ups s 27 (.bool true)) 28 (.bool true)) 29 (.bool true)) b _ ⟨hB, (p1_ hF.out), (p2_ hF.out), (p3_ hF.out), (p4_ hF.out), (p5_ hF.out), (p6_ hF.out), (p7_ hF.out), (p8_ hF.out), (p9_ hF.out), (p10_ hF.out), (p11_ hF.out), (p12_ hF.out), (p13_ hF.out), (p14_ hF.out), (p15_ hF.out), (p16_ hF.out), (p17_ hF.out), (p18_ hF.out), (p19_ hF.out), (p20_ hF.out), (fun _ => rfl), (fun _ => rfl), (fun _ => rfl), (q24_ hF.out)⟩
    refine StepsF.cons (o := _) rfl (ws := [22, 21, 0, 1, 2, 3, 4, 5, 6, 7, 8, 9, 10, 11, 12, 13, 14, 15, 16, 17, 18, 19, 20, 21, 22]) (by kernel_rfl) (by decide) (fun d s b w hF hd hw K hK => ?_) ?_
    · have hB : Below W0.heap.size W0 w := (p0_ hF.out)
      have e0 : s 7 = (.agg (nums .u8 kf 32).toArray) := (p1_ hF.out) (hw 0 (by decide))
      have e1 : s 8 = .int .u32 c := (p2_ hF.out) (hw 1 (by decide))
      have e2 : s 9 = (.agg (nums .u8 nf 12).toArray) := (p3_ hF.out) (hw 2 (by decide))
      have e3 : s 10 = (.agg (nums .u32 (stF kf c nf) 16).toArray) := (p4_ hF.out) (hw 3 (by decide))
      have e4 : s 11 = (.agg (nums .u8 kf 32).toArray) := (p5_ hF.out) (hw 4 (by decide))
      have e5 : s 12 = .int .u32 c := (p6_ hF.out) (hw 5 (by decide))
      have e6 : s 13 = (.agg (nums .u8 nf 12).toArray) := (p7_ hF.out) (hw 6 (by decide))
      have e7 : s 14 = (.agg (nums .u32 (stF kf c nf) 16).toArray) := (p8_ hF.out) (hw 7 (by decide))
      have e8 : s 15 = .bool true := (p9_ hF.out) (hw 8 (by decide))
      have e9 : s 16 = .bool true := (p10_ hF.out) (hw 9 (by decide))
      have e10 : s 17 = (.agg (nums .u8 kf 32).toArray) := (p11_ hF.out) (hw 10 (by decide))
      have e11 : s 18 = .int .u32 c := (p12_ hF.out) (hw 11 (by decide))
      have e12 : s 19 = (.agg (nums .u8 nf 12).toArray) := (p13_ hF.out) (hw 12 (by decide))
      have e13 : s 20 = (.agg (nums .u8 (blkF kf c nf) 64).toArray) := (p14_ hF.out) (hw 13 (by decide))
      have e14 : s 21 = (.agg (nums .u8 kf 32).toArray) := (p15_ hF.out) (hw 14 (by decide))
      have e15 : s 22 = .int .u32 c := (p16_ hF.out) (hw 15 (by decide))
      have e16 : s 23 = (.agg (nums .u8 nf 12).toArray) := (p17_ hF.out) (hw 16 (by decide))
      have e17 : s 24 = (.agg (nums .u8 (blkF kf c nf) 64).toArray) := (p18_ hF.out) (hw 17 (by decide))
      have e18 : s 25 = .bool true := (p19_ hF.out) (hw 18 (by decide))
      have e19 : s 26 = .bool true := (p20_ hF.out) (hw 19 (by decide))
      have e20 : s 27 = .bool true := (p21_ hF.out) (hw 20 (by decide))
      have e21 : s 28 = .bool true := (p22_ hF.out) (hw 21 (by decide))
      have e22 : s 29 = .bool true := (p23_ hF.out) (hw 22 (by decide))
      dsimp only
      go_simp
      exact hK.out (ups (ups (ups (ups (ups (ups (ups (ups (ups (ups (ups (ups (ups (ups (ups (ups (ups (ups (ups (ups (ups (ups (ups (ups s 7 ((.agg (nums .u8 kf 32).toArray))) 8 (.int .u32 c)) 9 ((.agg (nums .u8 nf 12).toArray))) 10 ((.agg (nums .u32 (stF kf c nf) 16).toArray))) 11 ((.agg (nums .u8 kf 32).toArray))) 12 (.int .u32 c)) 13 ((.agg (nums .u8 nf 12).toArray))) 14 ((.agg (nums .u32 (stF kf c nf) 16).toArray))) 15 (.bool true)) 16 (.bool true)) 17 ((.agg (nums .u8 kf 32).toArray))) 18 (.int .u32 c)) 19 ((.agg (nums .u8 nf 12).toArray))) 20 ((.agg (nums .u8 (blkF kf c nf) 64).toArray))) 21 ((.agg (nums .u8 kf 32).toArray))) 22 (.int .u32 c)) 23 ((.agg (nums .u8 nf 12).toArray))) 24 ((.agg (nums .u8 (blkF kf c nf) 64).toArray))) 25 (.bool true)) 26 (.bool true)) 27 (.bool true)) 28 (.bool true)) 29 (.bool true)) 6 (.bool true)) b _ ⟨hB, (fun _ => rfl), (fun _ => rfl), (fun _ => rfl), (fun _ => rfl), (fun _ => rfl), (fun _ => rfl), (fun _ => rfl), (fun _ => rfl), (fun _ => rfl), (fun _ => rfl), (fun _ => rfl), (fun _ => rfl), (fun _ => rfl), (fun _ => rfl), (fun _ => rfl), (fun _ => rfl), (fun _ => rfl), (fun _ => rfl), (fun _ => rfl), (fun _ => rfl), (fun _ => rfl), (fun _ => rfl), (fun _ => rfl), (fun _ => rfl)⟩
    exact StepsF.nil
  intro d s b y1 hF hall
  replace hF := Lib.hid hF
  have hB : Below W0.heap.size W0 y1 := (p0_ hF.out)
  try dsimp only
  have e0 : s 7 = (.agg (nums .u8 kf 32).toArray) := (p1_ hF.out) (hall 0 (by decide))
  have e1 : s 8 = .int .u32 c := (p2_ hF.out) (hall 1 (by decide))
  have e2 : s 9 = (.agg (nums .u8 nf 12).toArray) := (p3_ hF.out) (hall 2 (by decide))
  have e3 : s 10 = (.agg (nums .u32 (stF kf c nf) 16).toArray) := (p4_ hF.out) (hall 3 (by decide))
  have e4 : s 11 = (.agg (nums .u8 kf 32).toArray) := (p5_ hF.out) (hall 4 (by decide))
  have e5 : s 12 = .int .u32 c := (p6_ hF.out) (hall 5 (by decide))
  have e6 : s 13 = (.agg (nums .u8 nf 12).toArray) := (p7_ hF.out) (hall 6 (by decide))
  have e7 : s 14 = (.agg (nums .u32 (stF kf c nf) 16).toArray) := (p8_ hF.out) (hall 7 (by decide))
  have e8 : s 15 = .bool true := (p9_ hF.out) (hall 8 (by decide))
  have e9 : s 16 = .bool true := (p10_ hF.out) (hall 9 (by decide))
  have e10 : s 17 = (.agg (nums .u8 kf 32).toArray) := (p11_ hF.out) (hall 10 (by decide))
  have e11 : s 18 = .int .u32 c := (p12_ hF.out) (hall 11 (by decide))
  have e12 : s 19 = (.agg (nums .u8 nf 12).toArray) := (p13_ hF.out) (hall 12 (by decide))
  have e13 : s 20 = (.agg (nums .u8 (blkF kf c nf) 64).toArray) := (p14_ hF.out) (hall 13 (by decide))
  have e14 : s 21 = (.agg (nums .u8 kf 32).toArray) := (p15_ hF.out) (hall 14 (by decide))
  have e15 : s 22 = .int .u32 c := (p16_ hF.out) (hall 15 (by decide))
  have e16 : s 23 = (.agg (nums .u8 nf 12).toArray) := (p17_ hF.out) (hall 16 (by decide))
  have e17 : s 24 = (.agg (nums .u8 (blkF kf c nf) 64).toArray) := (p18_ hF.out) (hall 17 (by decide))
  have e18 : s 25 = .bool true := (p19_ hF.out) (hall 18 (by decide))
  have e19 : s 26 = .bool true := (p20_ hF.out) (hall 19 (by decide))
  have e20 : s 27 = .bool true := (p21_ hF.out) (hall 20 (by decide))
  have e21 : s 28 = .bool true := (p22_ hF.out) (hall 21 (by decide))
  have e22 : s 29 = .bool true := (p23_ hF.out) (hall 22 (by decide))
  have e23 : s 6 = .bool true := (q24_ hF.out) (hall 23 (by decide))
  rw [e0, e1, e2, e3, e4, e5, e6, e7, e8, e9, e10, e11, e12, e13, e14, e15, e16, e17, e18, e19, e20, e21, e22, e23]
  clear hall hF e0 e1 e2 e3 e4 e5 e6 e7 e8 e9 e10 e11 e12 e13 e14 e15 e16 e17 e18 e19 e20 e21 e22 e23
  clear d s b
  go_wp2_with (fail)
  go_ret
  exact ⟨rfl, Below.go hB0 hB⟩
end Go.Proofs.YtbcpoohoclobpaaDoor
