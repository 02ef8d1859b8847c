/- The document's Xor. -/
import Derived.Test.YtjkeaiihjbcfgaaDoorYCR
import Derived.Test.YtjkeaiihjbcfgaaDoorYCP
import Derived.LoopN
import Derived.LoopTactic
import Derived.Deep.Onto
import Derived.Laws.OwnMore
namespace Go.Proofs.YtjkeaiihjbcfgaaDoor
set_option linter.unusedVariables false
set_option maxRecDepth 2000
set_option linter.unusedSimpArgs false
open Go.RowKit

set_option maxHeartbeats 8000000 in
theorem RXor_any (kf nf : Nat → Int) (c : Int) (q : Option Addr) (N cq : Nat) (g : Nat → Int) (hN : N ≤ 65536) (hk : ∀ i, i < 32 → inB (kf i)) (hn : ∀ i, i < 12 → inB (nf i)) (hc : in32 c) (w : World) (hp : Byt w q N g) :
    Calls Tryd.prog 30 #[(.agg (nums .u8 kf 32).toArray), .int .u32 c, (.agg (nums .u8 nf 12).toArray), .slice q N cq] w fun e w' => ∃ v, e = .returned v ∧ w'.ownsRow w.heap.size 5 1 v N (nums .u8 (fun j => xorB (g j) (strF kf c nf j)) N) ∧ Below w.heap.size w w' := by
  have FK := Lib.hid hk; have FN := Lib.hid hn; have FC := Lib.hid hc; have HD0 := Lib.hid hp
  have LN := Lib.hid hN
  obtain ⟨XF, hXF⟩ : ∃ F, (fun j => xorB (g j) (strF kf c nf j)) = F := ⟨_, rfl⟩
  rw [hXF]
  have HXF := Lib.hid hXF
  clear hXF
  have nd : decide (65536 < (N : Int)) = false := decide_eq_false (by omega)
  obtain ⟨i0, hi, hz0, hz1, hz2⟩ := infoB_parts
  have HI := Lib.hid hi; have HZ0 := Lib.hid hz0; have HZ1 := Lib.hid hz1; have HZ2 := Lib.hid hz2
  clear hk hn hc hp hN hi hz0 hz1 hz2
  go_enter Tryd.func30, Tryd.ntmps30
  go_upto_region 1 with fail
  obtain ⟨W0, hW⟩ : ∃ W0, W0 = ((w.alloc (.cells (nums .u8 kf 32).toArray 22)).alloc (.cells (nums .u8 nf 12).toArray 23)) := ⟨_, rfl⟩
  have hB0 : Below w.heap.size w W0 := hW ▸ (Below.al (Below.al (Below.refl _ _)))
  have HK : Hid (Own w.heap.size (nums .u8 kf 32) W0) := Lib.hid (hW ▸ (show Own w.heap.size (nums .u8 kf 32) (w.alloc (.cells (nums .u8 kf 32).toArray 22)) from Own.newAt (by simp)).alloc)
  have HM : Hid (Own (w.heap.size + 1) (nums .u8 nf 12) W0) := Lib.hid (hW ▸ (show Own (w.heap.size + 1) (nums .u8 nf 12) ((w.alloc (.cells (nums .u8 kf 32).toArray 22)).alloc (.cells (nums .u8 nf 12).toArray 23)) from Own.newAt (by simp)))
  rw [← hW]
  clear hW
  obtain ⟨M_, eM_⟩ : ∃ X, X = (w.heap.size + 1) := ⟨_, rfl⟩
  rw [← eM_] at HM ⊢
  have M_w : w.heap.size ≤ M_ := by omega
  obtain ⟨K, eK⟩ : ∃ X, X = w.heap.size := ⟨_, rfl⟩
  rw [← eK] at HK ⊢
  have Kw : w.heap.size ≤ K := by omega
  have nKM_ : K ≠ M_ := by omega
  have nM_K : M_ ≠ K := by omega
  clear eK eM_
  have W0S := Lib.hid hB0.size
  go_upto_region 3 with fail
  clear nd
  refine wp_region_lit ?_
  refine wpList_load_mid rfl 22 _ rfl K 0 rfl (nums .u8 kf 32) _ HK.out.cell Tryd.underlying22 rfl (by kernel_rfl) ?_
  refine wpList_move rfl _ rfl ?_
  refine wpList_load_mid rfl 23 _ rfl M_ 0 rfl (nums .u8 nf 12) _ HM.out.cell Tryd.underlying23 rfl (by kernel_rfl) ?_
  go_wp2_with (fail)
  go_at_call 46
  refine (RStream_some kf nf c N LN.out FK.out FN.out FC.out _).mono ?_
  rintro e V0 ⟨v2, rfl, hrow2, hb⟩
  obtain ⟨p2, c2, rfl, hc2⟩ := row_form hrow2
  have ROW2 := Lib.hid hrow2
  have HB := Lib.hid (Below.go hB0 hb)
  have hD1 := HD0.out.later hB0
  have HD1 := Lib.hid (hD1.later hb)
  clear hrow2 HK HM hB0 hb hc2 HD0 hD1
  by_cases hN : N = 0
  · subst hN
    go_wp2_with (fail)
    refine wp_loop_rounds 1 ?_
    rw [rounds_succ]
    go_wp2_with (fail)
    go_ret
    exact ⟨_, rfl, World.ownsRow_nil _ _ _ _, HB.out⟩
  · obtain ⟨Y, c4, e4, _, _⟩ := row_blk ROW2.out (by omega)
    cases e4
    obtain ⟨db, dof, rfl, hD⟩ := HD1.out.resolve_left hN
    have HD := Lib.hid hD
    have HY := Lib.hid (row_has ROW2.out).1
    clear hD HD1 ROW2
    go_wp2_with (fail)
    go_loopw [10, 11] (fun v iv wr => ∃ (i : Nat) (p3 : Option Addr) (c3 : Nat), i ≤ N ∧ v = .slice p3 i c3 ∧ iv = .int .i64 i ∧ Hid (wr.ownsRow V0.heap.size 5 1 (.slice p3 i c3) i (nums .u8 XF i)) ∧ Hid (Below V0.heap.size V0 wr)) (fun _ iv _ => (N - (intOf iv).toNat))
    case atStart => exact ⟨0, none, 0, Nat.zero_le _, rfl, rfl, Lib.hid (World.ownsRow_nil _ _ _ _), Lib.hid (Below.refl _ _)⟩
    case round =>
      obtain ⟨i, p3, c3, hi, rfl, rfl, ROW, HB2⟩ := hrel
      by_cases hlt : i < N
      · have hii : (i : Int) < (N : Int) := by omega
        have i0' : (0 : Int) ≤ (i : Int) := by omega
        have hi5 : i + 1 ≤ 65536 := by have := LN.out; omega
        have i63 : (i : Int) + 1 ≤ 9223372036854775807 := by omega
        have XC := Lib.hid (nums_at .u8 g hlt)
        have YC := Lib.hid (nums_at .u8 (strF kf c nf) hlt)
        obtain ⟨x, ex⟩ : ∃ x, g i = x := ⟨_, rfl⟩
        obtain ⟨y, ey⟩ : ∃ y, strF kf c nf i = y := ⟨_, rfl⟩
        rw [ex] at XC; rw [ey] at YC
        obtain ⟨v, ev⟩ : ∃ v, bits .xor .u8 x y = v := ⟨_, rfl⟩
        have XS : Hid (nums .u8 XF i ++ [.int .u8 v] = nums .u8 XF (i + 1)) := Lib.hid (nums_append .u8 XF (fun _ => v) i 1 (fun j hj => by
          rw [show i + j = i by omega, ← HXF.out]
          show xorB (g i) (strF kf c nf i) = v
          rw [ex, ey, ← ev]
          rfl))
        clear ex ey hi
        have BH := HB2.out
        go_upto_region 8 with fail
        refine wp_region_fun 13 (by kernel_rfl) (by kernel_rfl) rfl (fun s b => ⟨#[(.agg (nums .u8 kf 32).toArray), .int .u32 c, (.agg (nums .u8 nf 12).toArray), (.slice (some ⟨db, dof, none⟩) N cq), .pointer (some ⟨K, 0, none⟩), undef, .pointer (some ⟨M_, 0, none⟩), undef, (.slice none 0 0), (.slice (some ⟨Y, 0, none⟩) N c2), s 10, .int .i64 (i : Nat), (.slice (some ⟨db, dof, none⟩) N cq), .int .i64 (N : Nat), .bool false, undef, undef, (.agg (nums .u8 kf 32).toArray), .int .u32 c, (.agg (nums .u8 nf 12).toArray), (.slice (some ⟨db, dof, none⟩) N cq), .int .i64 (N : Nat), (.slice (some ⟨Y, 0, none⟩) N c2), .int .i64 (i : Nat), (.slice (some ⟨db, dof, none⟩) N cq), .int .i64 (N : Nat), .bool true, u27, u28, s 29, s 30, s 31, s 32, s 33, s 34, s 35, s 36, s 37, s 38, s 39, s 40, undef], []⟩) (fun d s b w => (Below V0.heap.size V0 w) ∧ (d 0 = true → s 29 = (.slice p3 i c3)) ∧ (d 1 = true → s 30 = (.slice (some ⟨db, dof, none⟩) N cq)) ∧ (d 2 = true → s 31 = .int .i64 (i : Nat)) ∧ (d 3 = true → s 32 = .pointer (some ⟨db, dof + i, none⟩)) ∧ (d 4 = true → s 33 = .int .u8 x) ∧ (d 5 = true → s 34 = (.slice (some ⟨Y, 0, none⟩) N c2)) ∧ (d 6 = true → s 35 = .int .i64 (i : Nat)) ∧ (d 7 = true → s 36 = .pointer (some ⟨Y, i, none⟩)) ∧ (d 8 = true → s 37 = .int .u8 y) ∧ (d 9 = true → s 38 = .int .u8 v) ∧ (d 10 = true → s 39 = .slice (some ⟨(b 10), 0, none⟩) 1 1 ∧ V0.heap.size ≤ b 10) ∧ (d 10 = true → d 11 = false → Own (b 10) [.int .u8 v] w) ∧ (d 11 = false → w.ownsRow V0.heap.size 5 1 (.slice p3 i c3) i (nums .u8 XF i)) ∧ (d 11 = true → w.ownsRow V0.heap.size 5 1 (s 40) (i + 1) ((nums .u8 XF i) ++ [.int .u8 v])) ∧ (d 12 = true → s 10 = s 40) ∧ (d 12 = false → s 10 = (.slice p3 i c3)) ∧ (d 12 = true → d 0 = true) ∧ (d 12 = true → d 11 = true)) rfl ?h0w6 (?stw6 : StepsF _ _ _ _ 13 _ _ [0, 1, 2, 3, 4, 5, 6, 7, 8, 9, 10, 11, 12]) ?dnw6
        case h0w6 => exact ⟨Below.drew BH, (fun h => nomatch h), (fun h => nomatch h), (fun h => nomatch h), (fun h => nomatch h), (fun h => nomatch h), (fun h => nomatch h), (fun h => nomatch h), (fun h => nomatch h), (fun h => nomatch h), (fun h => nomatch h), (fun h => nomatch h), (fun h => nomatch h), (fun _ => row_later ROW.out (Below.refl _ _).drew), (fun h => nomatch h), (fun h => nomatch h), (fun _ => rfl), (fun h => nomatch h), (fun h => nomatch h)⟩
        case stw6 =>
          refine StepsF.cons (o := _) rfl (ws := []) (by kernel_rfl) (by decide) (fun d s b w hF hd hw K hK => ?_) ?_
          · have hB : Below V0.heap.size V0 w := (p0_ hF.out)
            have e12 : s 10 = (.slice p3 i c3) := (p16_ hF.out) (by cases e : d 12 with | false => rfl | true => exact absurd ((p17_ hF.out) e) (by simp [hd]))
            dsimp only
            go_simp
            exact hK.out (ups (ups s 10 ((.slice p3 i c3))) 29 ((.slice p3 i c3))) b _ ⟨hB, (fun _ => rfl), (p2_ hF.out), (p3_ hF.out), (p4_ hF.out), (p5_ hF.out), (p6_ hF.out), (p7_ hF.out), (p8_ hF.out), (p9_ hF.out), (p10_ hF.out), (p11_ hF.out), (p12_ hF.out), (p13_ hF.out), (p14_ hF.out), (fun h => absurd ((p17_ hF.out) h) (by simp [hd])), (fun _ => rfl), (fun _ => rfl), (q18_ hF.out)⟩
          refine StepsF.cons (o := _) rfl (ws := []) (by kernel_rfl) (by decide) (fun d s b w hF hd hw K hK => ?_) ?_
          · have hB : Below V0.heap.size V0 w := (p0_ hF.out)
            dsimp only
            go_simp
            exact hK.out (ups s 30 ((.slice (some ⟨db, dof, none⟩) N cq))) b _ ⟨hB, (p1_ hF.out), (fun _ => rfl), (p3_ hF.out), (p4_ hF.out), (p5_ hF.out), (p6_ hF.out), (p7_ hF.out), (p8_ hF.out), (p9_ hF.out), (p10_ hF.out), (p11_ hF.out), (p12_ hF.out), (p13_ hF.out), (p14_ hF.out), (p15_ hF.out), (p16_ hF.out), (p17_ hF.out), (q18_ hF.out)⟩
          refine StepsF.cons (o := _) rfl (ws := []) (by kernel_rfl) (by decide) (fun d s b w hF hd hw K hK => ?_) ?_
          · have hB : Below V0.heap.size V0 w := (p0_ hF.out)
            dsimp only
            go_simp
            exact hK.out (ups s 31 (.int .i64 (i : Nat))) b _ ⟨hB, (p1_ hF.out), (p2_ hF.out), (fun _ => rfl), (p4_ hF.out), (p5_ hF.out), (p6_ hF.out), (p7_ hF.out), (p8_ hF.out), (p9_ hF.out), (p10_ hF.out), (p11_ hF.out), (p12_ hF.out), (p13_ hF.out), (p14_ hF.out), (p15_ hF.out), (p16_ hF.out), (p17_ hF.out), (q18_ hF.out)⟩
          refine StepsF.cons (o := _) rfl (ws := [1, 2]) (by kernel_rfl) (by decide) (fun d s b w hF hd hw K hK => ?_) ?_
          · have hB : Below V0.heap.size V0 w := (p0_ hF.out)
            have e1 : s 30 = (.slice (some ⟨db, dof, none⟩) N cq) := (p2_ hF.out) (hw 1 (by decide))
            have e2 : s 31 = .int .i64 (i : Nat) := (p3_ hF.out) (hw 2 (by decide))
            dsimp only
            go_simp
            exact hK.out (ups (ups (ups s 30 ((.slice (some ⟨db, dof, none⟩) N cq))) 31 (.int .i64 (i : Nat))) 32 (.pointer (some ⟨db, dof + i, none⟩))) b _ ⟨hB, (p1_ hF.out), (fun _ => rfl), (fun _ => rfl), (fun _ => rfl), (p5_ hF.out), (p6_ hF.out), (p7_ hF.out), (p8_ hF.out), (p9_ hF.out), (p10_ hF.out), (p11_ hF.out), (p12_ hF.out), (p13_ hF.out), (p14_ hF.out), (p15_ hF.out), (p16_ hF.out), (p17_ hF.out), (q18_ hF.out)⟩
          refine StepsF.cons (o := _) rfl (ws := [3]) (by kernel_rfl) (by decide) (fun d s b w hF hd hw K hK => ?_) ?_
          · have hB : Below V0.heap.size V0 w := (p0_ hF.out)
            have e3 : s 32 = .pointer (some ⟨db, dof + i, none⟩) := (p4_ hF.out) (hw 3 (by decide))
            dsimp only
            have xc := (HD.out.later hB).cell i _ XC.out
            go_simp
            exact hK.out (ups (ups s 32 (.pointer (some ⟨db, dof + i, none⟩))) 33 (.int .u8 x)) b _ ⟨hB, (p1_ hF.out), (p2_ hF.out), (p3_ hF.out), (fun _ => rfl), (fun _ => rfl), (p6_ hF.out), (p7_ hF.out), (p8_ hF.out), (p9_ hF.out), (p10_ hF.out), (p11_ hF.out), (p12_ hF.out), (p13_ hF.out), (p14_ hF.out), (p15_ hF.out), (p16_ hF.out), (p17_ hF.out), (q18_ hF.out)⟩
          refine StepsF.cons (o := _) rfl (ws := []) (by kernel_rfl) (by decide) (fun d s b w hF hd hw K hK => ?_) ?_
          · have hB : Below V0.heap.size V0 w := (p0_ hF.out)
            dsimp only
            go_simp
            exact hK.out (ups s 34 ((.slice (some ⟨Y, 0, none⟩) N c2))) b _ ⟨hB, (p1_ hF.out), (p2_ hF.out), (p3_ hF.out), (p4_ hF.out), (p5_ hF.out), (fun _ => rfl), (p7_ hF.out), (p8_ hF.out), (p9_ hF.out), (p10_ hF.out), (p11_ hF.out), (p12_ hF.out), (p13_ hF.out), (p14_ hF.out), (p15_ hF.out), (p16_ hF.out), (p17_ hF.out), (q18_ hF.out)⟩
          refine StepsF.cons (o := _) rfl (ws := []) (by kernel_rfl) (by decide) (fun d s b w hF hd hw K hK => ?_) ?_
          · have hB : Below V0.heap.size V0 w := (p0_ hF.out)
            dsimp only
            go_simp
            exact hK.out (ups s 35 (.int .i64 (i : Nat))) b _ ⟨hB, (p1_ hF.out), (p2_ hF.out), (p3_ hF.out), (p4_ hF.out), (p5_ hF.out), (p6_ hF.out), (fun _ => rfl), (p8_ hF.out), (p9_ hF.out), (p10_ hF.out), (p11_ hF.out), (p12_ hF.out), (p13_ hF.out), (p14_ hF.out), (p15_ hF.out), (p16_ hF.out), (p17_ hF.out), (q18_ hF.out)⟩
          refine StepsF.cons (o := _) rfl (ws := [5, 6]) (by kernel_rfl) (by decide) (fun d s b w hF hd hw K hK => ?_) ?_
          · have hB : Below V0.heap.size V0 w := (p0_ hF.out)
            have e5 : s 34 = (.slice (some ⟨Y, 0, none⟩) N c2) := (p6_ hF.out) (hw 5 (by decide))
            have e6 : s 35 = .int .i64 (i : Nat) := (p7_ hF.out) (hw 6 (by decide))
            dsimp only
            go_simp
            exact hK.out (ups (ups (ups s 34 ((.slice (some ⟨Y, 0, none⟩) N c2))) 35 (.int .i64 (i : Nat))) 36 (.pointer (some ⟨Y, i, none⟩))) b _ ⟨hB, (p1_ hF.out), (p2_ hF.out), (p3_ hF.out), (p4_ hF.out), (p5_ hF.out), (fun _ => rfl), (fun _ => rfl), (fun _ => rfl), (p9_ hF.out), (p10_ hF.out), (p11_ hF.out), (p12_ hF.out), (p13_ hF.out), (p14_ hF.out), (p15_ hF.out), (p16_ hF.out), (p17_ hF.out), (q18_ hF.out)⟩
          refine StepsF.cons (o := _) rfl (ws := [7]) (by kernel_rfl) (by decide) (fun d s b w hF hd hw K hK => ?_) ?_
          · have hB : Below V0.heap.size V0 w := (p0_ hF.out)
            have e7 : s 36 = .pointer (some ⟨Y, i, none⟩) := (p8_ hF.out) (hw 7 (by decide))
            dsimp only
            have yc := (HY.out.later hB).cell i _ YC.out
            rw [Nat.zero_add] at yc
            go_simp
            exact hK.out (ups (ups s 36 (.pointer (some ⟨Y, i, none⟩))) 37 (.int .u8 y)) b _ ⟨hB, (p1_ hF.out), (p2_ hF.out), (p3_ hF.out), (p4_ hF.out), (p5_ hF.out), (p6_ hF.out), (p7_ hF.out), (fun _ => rfl), (fun _ => rfl), (p10_ hF.out), (p11_ hF.out), (p12_ hF.out), (p13_ hF.out), (p14_ hF.out), (p15_ hF.out), (p16_ hF.out), (p17_ hF.out), (q18_ hF.out)⟩
          refine StepsF.cons (o := _) rfl (ws := [4, 8]) (by kernel_rfl) (by decide) (fun d s b w hF hd hw K hK => ?_) ?_
          · have hB : Below V0.heap.size V0 w := (p0_ hF.out)
            have e4 : s 33 = .int .u8 x := (p5_ hF.out) (hw 4 (by decide))
            have e8 : s 37 = .int .u8 y := (p9_ hF.out) (hw 8 (by decide))
            dsimp only
            go_simp
            exact hK.out (ups (ups (ups s 33 (.int .u8 x)) 37 (.int .u8 y)) 38 (.int .u8 v)) b _ ⟨hB, (p1_ hF.out), (p2_ hF.out), (p3_ hF.out), (p4_ hF.out), (fun _ => rfl), (p6_ hF.out), (p7_ hF.out), (p8_ hF.out), (fun _ => rfl), (fun _ => rfl), (p11_ hF.out), (p12_ hF.out), (p13_ hF.out), (p14_ hF.out), (p15_ hF.out), (p16_ hF.out), (p17_ hF.out), (q18_ hF.out)⟩
          refine StepsF.cons (o := _) rfl (ws := [9]) (by kernel_rfl) (by decide) (fun d s b w hF hd hw K hK => ?_) ?_
          · have hB : Below V0.heap.size V0 w := (p0_ hF.out)
            have e9 : s 38 = .int .u8 v := (p10_ hF.out) (hw 9 (by decide))
            dsimp only
            go_simp
            exact hK.out (ups (ups s 38 (.int .u8 v)) 39 (.slice (some ⟨w.heap.size, 0, none⟩) 1 1)) (ups b 10 w.heap.size) _ ⟨(hB.alloc hB.size _), (p1_ hF.out), (p2_ hF.out), (p3_ hF.out), (p4_ hF.out), (p5_ hF.out), (p6_ hF.out), (p7_ hF.out), (p8_ hF.out), (p9_ hF.out), (fun _ => rfl), (fun _ => ⟨rfl, hB.size⟩), (fun _ _ => Own.newAt rfl), (fun h0 => row_later ((p13_ hF.out) h0) (Below.al (Below.refl _ _))), (fun h0 => row_later ((p14_ hF.out) h0) (Below.al (Below.refl _ _))), (p15_ hF.out), (p16_ hF.out), (p17_ hF.out), (q18_ hF.out)⟩
          refine StepsF.cons (o := _) rfl (ws := [0, 10]) (by kernel_rfl) (by decide) (fun d s b w hF hd hw K hK => ?_) ?_
          · have hB : Below V0.heap.size V0 w := (p0_ hF.out)
            have e12 : s 10 = (.slice p3 i c3) := (p16_ hF.out) (by cases e : d 12 with | false => rfl | true => exact absurd ((q18_ hF.out) e) (by simp [hd]))
            have e0 : s 29 = (.slice p3 i c3) := (p1_ hF.out) (hw 0 (by decide))
            have e10 : s 39 = .slice (some ⟨(b 10), 0, none⟩) 1 1 := ((p11_ hF.out) (hw 10 (by decide))).1
            have le10 : V0.heap.size ≤ b 10 := ((p11_ hF.out) (hw 10 (by decide))).2
            have hi := HI.out
            have hz0 := HZ0.out
            have hz1 := HZ1.out
            have hz2 := HZ2.out
            have go := (p13_ hF.out) hd; have nb := (p12_ hF.out) (hw 10 (by decide)) hd
            refine step_append_to rfl (.tmp 29) (.tmp 39) 26 rfl 5 i0 (.int .u8 0) 1 1 Tryd.underlying26 hi hz0 hz1 hz2 rfl (by decide) V0.heap.size (.slice p3 i c3) i (nums .u8 XF i) ?a1 go ⟨b 10, 0, none⟩ 1 1 [.int .u8 v] ?a2 rfl nb.news ?c2 ?c3 ?c4 hB.size ?_
            case a1 => exact e0
            case a2 => exact e10
            case c2 => simp [Value.oneCell']
            case c3 => unfold maxLen; omega
            case c4 => omega
            intro v' w' hown hg
            exact hK.out (ups s 40 (v')) b _ ⟨(Below.gro hB hg go (Nat.le_refl _)), (p1_ hF.out), (p2_ hF.out), (p3_ hF.out), (p4_ hF.out), (p5_ hF.out), (p6_ hF.out), (p7_ hF.out), (p8_ hF.out), (p9_ hF.out), (p10_ hF.out), (p11_ hF.out), (fun _ h => nomatch h), (fun h => nomatch h), (fun _ => hown), (fun h => absurd ((q18_ hF.out) h) (by simp [hd])), (p16_ hF.out), (p17_ hF.out), (fun _ => rfl)⟩
          refine StepsF.cons (o := _) rfl (ws := [11, 11, 0, 1, 2, 3, 4, 5, 6, 7, 8, 9, 10, 11]) (by kernel_rfl) (by decide) (fun d s b w hF hd hw K hK => ?_) ?_
          · have hB : Below V0.heap.size V0 w := (p0_ hF.out)
            have e0 : s 29 = (.slice p3 i c3) := (p1_ hF.out) (hw 0 (by decide))
            have e1 : s 30 = (.slice (some ⟨db, dof, none⟩) N cq) := (p2_ hF.out) (hw 1 (by decide))
            have e2 : s 31 = .int .i64 (i : Nat) := (p3_ hF.out) (hw 2 (by decide))
            have e3 : s 32 = .pointer (some ⟨db, dof + i, none⟩) := (p4_ hF.out) (hw 3 (by decide))
            have e4 : s 33 = .int .u8 x := (p5_ hF.out) (hw 4 (by decide))
            have e5 : s 34 = (.slice (some ⟨Y, 0, none⟩) N c2) := (p6_ hF.out) (hw 5 (by decide))
            have e6 : s 35 = .int .i64 (i : Nat) := (p7_ hF.out) (hw 6 (by decide))
            have e7 : s 36 = .pointer (some ⟨Y, i, none⟩) := (p8_ hF.out) (hw 7 (by decide))
            have e8 : s 37 = .int .u8 y := (p9_ hF.out) (hw 8 (by decide))
            have e9 : s 38 = .int .u8 v := (p10_ hF.out) (hw 9 (by decide))
            have e10 : s 39 = .slice (some ⟨(b 10), 0, none⟩) 1 1 := ((p11_ hF.out) (hw 10 (by decide))).1
            have le10 : V0.heap.size ≤ b 10 := ((p11_ hF.out) (hw 10 (by decide))).2
            dsimp only
            go_simp
            exact hK.out (ups (ups (ups (ups (ups (ups (ups (ups (ups (ups (ups (ups s 29 ((.slice p3 i c3))) 30 ((.slice (some ⟨db, dof, none⟩) N cq))) 31 (.int .i64 (i : Nat))) 32 (.pointer (some ⟨db, dof + i, none⟩))) 33 (.int .u8 x)) 34 ((.slice (some ⟨Y, 0, none⟩) N c2))) 35 (.int .i64 (i : Nat))) 36 (.pointer (some ⟨Y, i, none⟩))) 37 (.int .u8 y)) 38 (.int .u8 v)) 39 (.slice (some ⟨(b 10), 0, none⟩) 1 1)) 10 (s 40)) b _ ⟨hB, (fun _ => rfl), (fun _ => rfl), (fun _ => rfl), (fun _ => rfl), (fun _ => rfl), (fun _ => rfl), (fun _ => rfl), (fun _ => rfl), (fun _ => rfl), (fun _ => rfl), (fun _ => ⟨rfl, le10⟩), (p12_ hF.out), (p13_ hF.out), (p14_ hF.out), (fun _ => rfl), (fun h => nomatch h), (fun _ => hw 0 (by decide)), (fun _ => hw 11 (by decide))⟩
          exact StepsF.nil
        intro d s b w6 hF hall
        replace hF := Lib.hid hF
        have hB : Below V0.heap.size V0 w6 := (p0_ hF.out)
        try dsimp only
        have e0 : s 29 = (.slice p3 i c3) := (p1_ hF.out) (hall 0 (by decide))
        have e1 : s 30 = (.slice (some ⟨db, dof, none⟩) N cq) := (p2_ hF.out) (hall 1 (by decide))
        have e2 : s 31 = .int .i64 (i : Nat) := (p3_ hF.out) (hall 2 (by decide))
        have e3 : s 32 = .pointer (some ⟨db, dof + i, none⟩) := (p4_ hF.out) (hall 3 (by decide))
        have e4 : s 33 = .int .u8 x := (p5_ hF.out) (hall 4 (by decide))
        have e5 : s 34 = (.slice (some ⟨Y, 0, none⟩) N c2) := (p6_ hF.out) (hall 5 (by decide))
        have e6 : s 35 = .int .i64 (i : Nat) := (p7_ hF.out) (hall 6 (by decide))
        have e7 : s 36 = .pointer (some ⟨Y, i, none⟩) := (p8_ hF.out) (hall 7 (by decide))
        have e8 : s 37 = .int .u8 y := (p9_ hF.out) (hall 8 (by decide))
        have e9 : s 38 = .int .u8 v := (p10_ hF.out) (hall 9 (by decide))
        have e10 : s 39 = .slice (some ⟨(b 10), 0, none⟩) 1 1 := ((p11_ hF.out) (hall 10 (by decide))).1
        have le10 : V0.heap.size ≤ b 10 := ((p11_ hF.out) (hall 10 (by decide))).2
        have f11 := (p14_ hF.out) (hall 11 (by decide))
        have e12 : s 10 = s 40 := (p15_ hF.out) (hall 12 (by decide))
        rw [e0, e1, e2, e3, e4, e5, e6, e7, e8, e9, e10, e12]
        clear hall hF e0 e1 e2 e3 e4 e5 e6 e7 e8 e9 e10 e12
        obtain ⟨nw, hz⟩ : ∃ x, x = b 10 := ⟨_, rfl⟩
        rw [← hz] at le10 ⊢
        clear hz
        obtain ⟨u1_, hz⟩ : ∃ x, x = s 40 := ⟨_, rfl⟩
        rw [← hz] at f11 ⊢
        clear hz
        clear d s b
        obtain ⟨p5, c5, rfl, _⟩ := row_form f11
        rw [XS.out] at f11
        have o6 := Lib.hid f11
        have o7 := Lib.hid hB
        clear f11 hB ROW HB2
        go_wp2_with (fail)
        go_roundw
        case rel => (first | exact ⟨i + 1, _, _, by omega, rfl, by go_num, o6, o7⟩ | ((repeat apply Exists.intro); exact ⟨⟨i + 1, _, _, by omega, rfl, by go_num, o6, o7⟩, rfl⟩))
        case measure => simp [intOf]; omega
      · obtain rfl : i = N := by omega
        go_wp2_with (fail)
        go_ret
        exact ⟨_, rfl, ROW.out.mono HB.out.size, Below.go HB.out HB2.out⟩
end Go.Proofs.YtjkeaiihjbcfgaaDoor
