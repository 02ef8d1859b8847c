/- The document's State. -/
import Derived.Test.YtbepgbpmgiihbaaDoorCF
import Derived.LoopN
import Derived.LoopTactic
namespace Go.Proofs.YtbepgbpmgiihbaaDoor
set_option linter.unusedVariables false
set_option maxRecDepth 2000
set_option linter.unusedSimpArgs false
open Go.RowKit
theorem RNumber_new (K : Nat) (b0 b1 b2 b3 z : Int) (h0 : inB b0) (h1 : inB b1) (h2 : inB b2) (h3 : inB b3) (hz : b0 + 256 * b1 + 65536 * b2 + 16777216 * b3 = z) (w : World) (h : Own K [.int .u8 b0, .int .u8 b1, .int .u8 b2, .int .u8 b3] w) :
    Calls Tryd.prog 15 #[.slice (some ⟨K, 0, none⟩) 4 4] w fun e w' => e = .returned (.int .u32 z) ∧ Below w.heap.size w w' := by
  subst hz
  exact RNumber_any K 0 4 4 b0 b1 b2 b3 h0 h1 h2 h3 (by decide) w h.has

set_option maxHeartbeats 8000000 in
theorem RState_any (kf nf : Nat → Int) (c : Int) (hk : ∀ i, i < 32 → inB (kf i)) (hn : ∀ i, i < 12 → inB (nf i)) (w : World) :
    Calls Tryd.prog 23 #[(.agg (nums .u8 kf 32).toArray), .int .u32 c, (.agg (nums .u8 nf 12).toArray)] w fun e w' => e = .returned (.agg (nums .u32 (stF kf c nf) 16).toArray) ∧ Below w.heap.size w w' := by
  have FK := Lib.hid hk; have FN := Lib.hid hn
  clear hk hn
  obtain ⟨k0, ek0⟩ : ∃ z, word kf 0 = z := ⟨_, rfl⟩
  obtain ⟨k1, ek1⟩ : ∃ z, word kf 4 = z := ⟨_, rfl⟩
  obtain ⟨k2, ek2⟩ : ∃ z, word kf 8 = z := ⟨_, rfl⟩
  obtain ⟨k3, ek3⟩ : ∃ z, word kf 12 = z := ⟨_, rfl⟩
  obtain ⟨k4, ek4⟩ : ∃ z, word kf 16 = z := ⟨_, rfl⟩
  obtain ⟨k5, ek5⟩ : ∃ z, word kf 20 = z := ⟨_, rfl⟩
  obtain ⟨k6, ek6⟩ : ∃ z, word kf 24 = z := ⟨_, rfl⟩
  obtain ⟨k7, ek7⟩ : ∃ z, word kf 28 = z := ⟨_, rfl⟩
  obtain ⟨m0, em0⟩ : ∃ z, word nf 0 = z := ⟨_, rfl⟩
  obtain ⟨m1, em1⟩ : ∃ z, word nf 4 = z := ⟨_, rfl⟩
  obtain ⟨m2, em2⟩ : ∃ z, word nf 8 = z := ⟨_, rfl⟩
  have HF : nums .u32 (stF kf c nf) 16 = [.int .u32 1634760805, .int .u32 857760878, .int .u32 2036477234, .int .u32 1797285236, .int .u32 k0, .int .u32 k1, .int .u32 k2, .int .u32 k3, .int .u32 k4, .int .u32 k5, .int .u32 k6, .int .u32 k7, .int .u32 c, .int .u32 m0, .int .u32 m1, .int .u32 m2] := by
    rw [← ek0, ← ek1, ← ek2, ← ek3, ← ek4, ← ek5, ← ek6, ← ek7, ← em0, ← em1, ← em2]
    rfl
  rw [HF]
  clear HF
  go_enter Tryd.func23, Tryd.ntmps23
  go_upto_region 2 with fail
  obtain ⟨W0, hW⟩ : ∃ W0, W0 = ((((w.alloc (.cells (nums .u8 kf 32).toArray 44)).alloc (.cells (nums .u8 nf 12).toArray 47)).alloc (.cells #[.int .u32 0, .int .u32 0, .int .u32 0, .int .u32 0, .int .u32 0, .int .u32 0, .int .u32 0, .int .u32 0, .int .u32 0, .int .u32 0, .int .u32 0, .int .u32 0, .int .u32 0, .int .u32 0, .int .u32 0, .int .u32 0] 56)).alloc (.cells #[.int .u32 0, .int .u32 0, .int .u32 0, .int .u32 0, .int .u32 0, .int .u32 0, .int .u32 0, .int .u32 0, .int .u32 0, .int .u32 0, .int .u32 0, .int .u32 0, .int .u32 0, .int .u32 0, .int .u32 0, .int .u32 0] 56)) := ⟨_, rfl⟩
  have hB0 : Below w.heap.size w W0 := hW ▸ (Below.al (Below.al (Below.al (Below.al (Below.refl _ _)))))
  have HK : Hid (Own w.heap.size (nums .u8 kf 32) W0) := Lib.hid (hW ▸ (show Own w.heap.size (nums .u8 kf 32) (w.alloc (.cells (nums .u8 kf 32).toArray 44)) from Own.newAt (by simp)).alloc.alloc.alloc)
  have HM : Hid (Own (w.heap.size + 1) (nums .u8 nf 12) W0) := Lib.hid (hW ▸ (show Own (w.heap.size + 1) (nums .u8 nf 12) ((w.alloc (.cells (nums .u8 kf 32).toArray 44)).alloc (.cells (nums .u8 nf 12).toArray 47)) from Own.newAt (by simp)).alloc.alloc)
  have HR : Hid (Own ((w.heap.size + 1) + 1) ([.int .u32 0, .int .u32 0, .int .u32 0, .int .u32 0, .int .u32 0, .int .u32 0, .int .u32 0, .int .u32 0, .int .u32 0, .int .u32 0, .int .u32 0, .int .u32 0, .int .u32 0, .int .u32 0, .int .u32 0, .int .u32 0]) W0) := Lib.hid (hW ▸ (show Own ((w.heap.size + 1) + 1) ([.int .u32 0, .int .u32 0, .int .u32 0, .int .u32 0, .int .u32 0, .int .u32 0, .int .u32 0, .int .u32 0, .int .u32 0, .int .u32 0, .int .u32 0, .int .u32 0, .int .u32 0, .int .u32 0, .int .u32 0, .int .u32 0]) (((w.alloc (.cells (nums .u8 kf 32).toArray 44)).alloc (.cells (nums .u8 nf 12).toArray 47)).alloc (.cells #[.int .u32 0, .int .u32 0, .int .u32 0, .int .u32 0, .int .u32 0, .int .u32 0, .int .u32 0, .int .u32 0, .int .u32 0, .int .u32 0, .int .u32 0, .int .u32 0, .int .u32 0, .int .u32 0, .int .u32 0, .int .u32 0] 56)) from Own.newAt (by simp)).alloc)
  have HS : Hid (Own (((w.heap.size + 1) + 1) + 1) ([.int .u32 0, .int .u32 0, .int .u32 0, .int .u32 0, .int .u32 0, .int .u32 0, .int .u32 0, .int .u32 0, .int .u32 0, .int .u32 0, .int .u32 0, .int .u32 0, .int .u32 0, .int .u32 0, .int .u32 0, .int .u32 0]) W0) := Lib.hid (hW ▸ (show Own (((w.heap.size + 1) + 1) + 1) ([.int .u32 0, .int .u32 0, .int .u32 0, .int .u32 0, .int .u32 0, .int .u32 0, .int .u32 0, .int .u32 0, .int .u32 0, .int .u32 0, .int .u32 0, .int .u32 0, .int .u32 0, .int .u32 0, .int .u32 0, .int .u32 0]) ((((w.alloc (.cells (nums .u8 kf 32).toArray 44)).alloc (.cells (nums .u8 nf 12).toArray 47)).alloc (.cells #[.int .u32 0, .int .u32 0, .int .u32 0, .int .u32 0, .int .u32 0, .int .u32 0, .int .u32 0, .int .u32 0, .int .u32 0, .int .u32 0, .int .u32 0, .int .u32 0, .int .u32 0, .int .u32 0, .int .u32 0, .int .u32 0] 56)).alloc (.cells #[.int .u32 0, .int .u32 0, .int .u32 0, .int .u32 0, .int .u32 0, .int .u32 0, .int .u32 0, .int .u32 0, .int .u32 0, .int .u32 0, .int .u32 0, .int .u32 0, .int .u32 0, .int .u32 0, .int .u32 0, .int .u32 0] 56)) from Own.newAt (by simp)))
  rw [← hW]
  clear hW
  obtain ⟨S, eS⟩ : ∃ X, X = (((w.heap.size + 1) + 1) + 1) := ⟨_, rfl⟩
  rw [← eS] at HS ⊢
  have Sw : w.heap.size ≤ S := by omega
  obtain ⟨R, eR⟩ : ∃ X, X = ((w.heap.size + 1) + 1) := ⟨_, rfl⟩
  rw [← eR] at HR ⊢
  have Rw : w.heap.size ≤ R := by omega
  obtain ⟨M, eM⟩ : ∃ X, X = (w.heap.size + 1) := ⟨_, rfl⟩
  rw [← eM] at HM ⊢
  have Mw : w.heap.size ≤ M := by omega
  obtain ⟨K, eK⟩ : ∃ X, X = w.heap.size := ⟨_, rfl⟩
  rw [← eK] at HK ⊢
  have Kw : w.heap.size ≤ K := by omega
  have nKM : K ≠ M := by omega
  have nMK : M ≠ K := by omega
  have nKR : K ≠ R := by omega
  have nRK : R ≠ K := by omega
  have nKS : K ≠ S := by omega
  have nSK : S ≠ K := by omega
  have nMR : M ≠ R := by omega
  have nRM : R ≠ M := by omega
  have nMS : M ≠ S := by omega
  have nSM : S ≠ M := by omega
  have nRS : R ≠ S := by omega
  have nSR : S ≠ R := by omega
  clear eK eM eR eS
  go_wp2_with (fail)
  refine wp_loop_rounds 5 ?_
  rw [rounds_succ]
  go_wp2_with (fail)
  refine wp_region_fun 24 (by kernel_rfl) (by kernel_rfl) rfl (fun s b => ⟨#[(.agg (nums .u8 kf 32).toArray), .int .u32 c, (.agg (nums .u8 nf 12).toArray), .pointer (some ⟨K, 0, none⟩), undef, .pointer (some ⟨M, 0, none⟩), .pointer (some ⟨R, 0, none⟩), .pointer (some ⟨S, 0, none⟩), .string { data := #[101, 120, 112, 97, 110, 100, 32, 51, 50, 45, 98, 121, 116, 101, 32, 107] }, .int .i64 0, undef, undef, .int .i64 0, .bool true, undef, undef, s 16, s 17, s 18, s 19, s 20, s 21, s 22, s 23, s 24, s 25, s 26, s 27, s 28, s 29, s 30, s 31, s 32, s 33, s 34, s 35, s 36, s 37, s 38, undef, undef, undef, undef, undef, undef, undef, undef, undef, undef, undef, undef, undef, undef, undef, undef, undef, undef, undef, undef, undef, undef, undef, undef, undef, undef, undef, undef, undef, undef, undef], []⟩) (fun d s b w => (d 23 = false → Below W0.heap.size W0 w) ∧ (d 0 = true → s 16 = .int .i64 0) ∧ (d 1 = true → s 17 = .string { data := #[101, 120, 112, 97, 110, 100, 32, 51, 50, 45, 98, 121, 116, 101, 32, 107] }) ∧ (d 2 = true → s 18 = .int .i64 0) ∧ (d 3 = true → s 19 = .int .i64 0) ∧ (d 4 = true → s 20 = .int .u8 101) ∧ (d 5 = true → s 21 = .string { data := #[101, 120, 112, 97, 110, 100, 32, 51, 50, 45, 98, 121, 116, 101, 32, 107] }) ∧ (d 6 = true → s 22 = .int .i64 0) ∧ (d 7 = true → s 23 = .int .i64 0) ∧ (d 8 = true → s 24 = .int .i64 1) ∧ (d 9 = true → s 25 = .int .u8 120) ∧ (d 10 = true → s 26 = .string { data := #[101, 120, 112, 97, 110, 100, 32, 51, 50, 45, 98, 121, 116, 101, 32, 107] }) ∧ (d 11 = true → s 27 = .int .i64 0) ∧ (d 12 = true → s 28 = .int .i64 0) ∧ (d 13 = true → s 29 = .int .i64 2) ∧ (d 14 = true → s 30 = .int .u8 112) ∧ (d 15 = true → s 31 = .string { data := #[101, 120, 112, 97, 110, 100, 32, 51, 50, 45, 98, 121, 116, 101, 32, 107] }) ∧ (d 16 = true → s 32 = .int .i64 0) ∧ (d 17 = true → s 33 = .int .i64 0) ∧ (d 18 = true → s 34 = .int .i64 3) ∧ (d 19 = true → s 35 = .int .u8 97) ∧ (d 20 = true → s 36 = .slice (some ⟨(b 20), 0, none⟩) 4 4 ∧ W0.heap.size ≤ b 20) ∧ (d 20 = true → d 21 = false → Own (b 20) [.int .u8 101, .int .u8 120, .int .u8 112, .int .u8 97] w) ∧ (d 21 = true → s 37 = .int .u32 1634760805) ∧ (d 22 = true → s 38 = .pointer (some ⟨S, 0, none⟩)) ∧ (d 23 = true → ∀ j, j < 23 → d j = true) ∧ (d 23 = true → ∃ w2, Below W0.heap.size W0 w2 ∧ w = w2.setCells S 0 [.int .u32 1634760805])) rfl ?h0y0 (?sty0 : StepsF _ _ _ _ 24 _ _ [0, 1, 2, 3, 4, 5, 6, 7, 8, 9, 10, 11, 12, 13, 14, 15, 16, 17, 18, 19, 20, 21, 22, 23]) ?dny0
  case h0y0 => exact ⟨fun _ => Below.drew (Below.refl _ _), (fun h => nomatch h), (fun h => nomatch h), (fun h => nomatch h), (fun h => nomatch h), (fun h => nomatch h), (fun h => nomatch h), (fun h => nomatch h), (fun h => nomatch h), (fun h => nomatch h), (fun h => nomatch h), (fun h => nomatch h), (fun h => nomatch h), (fun h => nomatch h), (fun h => nomatch h), (fun h => nomatch h), (fun h => nomatch h), (fun h => nomatch h), (fun h => nomatch h), (fun h => nomatch h), (fun h => nomatch h), (fun h => nomatch h), (fun h => nomatch h), (fun h => nomatch h), (fun h => nomatch h), (fun h => nomatch h), (fun h => nomatch h)⟩
  case sty0 =>
    refine StepsF.cons (o := _) rfl (ws := []) (by kernel_rfl) (by decide) (fun d s b w hF hd hw K hK => ?_) ?_
    · have hk : d 23 = false := by cases e : d 23 with | false => rfl | true => exact absurd ((p25_ hF.out) e 0 (by decide)) (by simp [hd])
      have hB : Below W0.heap.size W0 w := (p0_ hF.out) hk
      dsimp only
      go_simp
      exact hK.out (ups s 16 (.int .i64 0)) b _ ⟨(fun _ => hB), (fun _ => rfl), (p2_ hF.out), (p3_ hF.out), (p4_ hF.out), (p5_ hF.out), (p6_ hF.out), (p7_ hF.out), (p8_ hF.out), (p9_ hF.out), (p10_ hF.out), (p11_ hF.out), (p12_ hF.out), (p13_ hF.out), (p14_ hF.out), (p15_ hF.out), (p16_ hF.out), (p17_ hF.out), (p18_ hF.out), (p19_ hF.out), (p20_ hF.out), (p21_ hF.out), (p22_ hF.out), (p23_ hF.out), (p24_ hF.out), (fun h => absurd ((p25_ hF.out) h 0 (by decide)) (by simp [hd])), (fun h => absurd ((p25_ hF.out) h 0 (by decide)) (by simp [hd]))⟩
    refine StepsF.cons (o := _) rfl (ws := []) (by kernel_rfl) (by decide) (fun d s b w hF hd hw K hK => ?_) ?_
    · have hk : d 23 = false := by cases e : d 23 with | false => rfl | true => exact absurd ((p25_ hF.out) e 1 (by decide)) (by simp [hd])
      have hB : Below W0.heap.size W0 w := (p0_ hF.out) hk
      dsimp only
      go_simp
      exact hK.out (ups s 17 (.string { data := #[101, 120, 112, 97, 110, 100, 32, 51, 50, 45, 98, 121, 116, 101, 32, 107] })) b _ ⟨(fun _ => hB), (p1_ hF.out), (fun _ => rfl), (p3_ hF.out), (p4_ hF.out), (p5_ hF.out), (p6_ hF.out), (p7_ hF.out), (p8_ hF.out), (p9_ hF.out), (p10_ hF.out), (p11_ hF.out), (p12_ hF.out), (p13_ hF.out), (p14_ hF.out), (p15_ hF.out), (p16_ hF.out), (p17_ hF.out), (p18_ hF.out), (p19_ hF.out), (p20_ hF.out), (p21_ hF.out), (p22_ hF.out), (p23_ hF.out), (p24_ hF.out), (fun h => absurd ((p25_ hF.out) h 1 (by decide)) (by simp [hd])), (fun h => absurd ((p25_ hF.out) h 1 (by decide)) (by simp [hd]))⟩
    refine StepsF.cons (o := _) rfl (ws := []) (by kernel_rfl) (by decide) (fun d s b w hF hd hw K hK => ?_) ?_
    · have hk : d 23 = false := by cases e : d 23 with | false => rfl | true => exact absurd ((p25_ hF.out) e 2 (by decide)) (by simp [hd])
      have hB : Below W0.heap.size W0 w := (p0_ hF.out) hk
      dsimp only
      go_simp
      exact hK.out (ups s 18 (.int .i64 0)) b _ ⟨(fun _ => hB), (p1_ hF.out), (p2_ hF.out), (fun _ => rfl), (p4_ hF.out), (p5_ hF.out), (p6_ hF.out), (p7_ hF.out), (p8_ hF.out), (p9_ hF.out), (p10_ hF.out), (p11_ hF.out), (p12_ hF.out), (p13_ hF.out), (p14_ hF.out), (p15_ hF.out), (p16_ hF.out), (p17_ hF.out), (p18_ hF.out), (p19_ hF.out), (p20_ hF.out), (p21_ hF.out), (p22_ hF.out), (p23_ hF.out), (p24_ hF.out), (fun h => absurd ((p25_ hF.out) h 2 (by decide)) (by simp [hd])), (fun h => absurd ((p25_ hF.out) h 2 (by decide)) (by simp [hd]))⟩
    refine StepsF.cons (o := _) rfl (ws := [2]) (by kernel_rfl) (by decide) (fun d s b w hF hd hw K hK => ?_) ?_
    · have hk : d 23 = false := by cases e : d 23 with | false => rfl | true => exact absurd ((p25_ hF.out) e 3 (by decide)) (by simp [hd])
      have hB : Below W0.heap.size W0 w := (p0_ hF.out) hk
      have e2 : s 18 = .int .i64 0 := (p3_ hF.out) (hw 2 (by decide))
      dsimp only
      go_simp
      exact hK.out (ups (ups s 18 (.int .i64 0)) 19 (.int .i64 0)) b _ ⟨(fun _ => hB), (p1_ hF.out), (p2_ hF.out), (fun _ => rfl), (fun _ => rfl), (p5_ hF.out), (p6_ hF.out), (p7_ hF.out), (p8_ hF.out), (p9_ hF.out), (p10_ hF.out), (p11_ hF.out), (p12_ hF.out), (p13_ hF.out), (p14_ hF.out), (p15_ hF.out), (p16_ hF.out), (p17_ hF.out), (p18_ hF.out), (p19_ hF.out), (p20_ hF.out), (p21_ hF.out), (p22_ hF.out), (p23_ hF.out), (p24_ hF.out), (fun h => absurd ((p25_ hF.out) h 3 (by decide)) (by simp [hd])), (fun h => absurd ((p25_ hF.out) h 3 (by decide)) (by simp [hd]))⟩
    refine StepsF.cons (o := _) rfl (ws := [1, 3]) (by kernel_rfl) (by decide) (fun d s b w hF hd hw K hK => ?_) ?_
    · have hk : d 23 = false := by cases e : d 23 with | false => rfl | true => exact absurd ((p25_ hF.out) e 4 (by decide)) (by simp [hd])
      have hB : Below W0.heap.size W0 w := (p0_ hF.out) hk
      have e1 : s 17 = .string { data := #[101, 120, 112, 97, 110, 100, 32, 51, 50, 45, 98, 121, 116, 101, 32, 107] } := (p2_ hF.out) (hw 1 (by decide))
      have e3 : s 19 = .int .i64 0 := (p4_ hF.out) (hw 3 (by decide))
      dsimp only
      go_simp
      exact hK.out (ups (ups (ups s 17 (.string { data := #[101, 120, 112, 97, 110, 100, 32, 51, 50, 45, 98, 121, 116, 101, 32, 107] })) 19 (.int .i64 0)) 20 (.int .u8 101)) b _ ⟨(fun _ => hB), (p1_ hF.out), (fun _ => rfl), (p3_ hF.out), (fun _ => rfl), (fun _ => rfl), (p6_ hF.out), (p7_ hF.out), (p8_ hF.out), (p9_ hF.out), (p10_ hF.out), (p11_ hF.out), (p12_ hF.out), (p13_ hF.out), (p14_ hF.out), (p15_ hF.out), (p16_ hF.out), (p17_ hF.out), (p18_ hF.out), (p19_ hF.out), (p20_ hF.out), (p21_ hF.out), (p22_ hF.out), (p23_ hF.out), (p24_ hF.out), (fun h => absurd ((p25_ hF.out) h 4 (by decide)) (by simp [hd])), (fun h => absurd ((p25_ hF.out) h 4 (by decide)) (by simp [hd]))⟩
    refine StepsF.cons (o := _) rfl (ws := []) (by kernel_rfl) (by decide) (fun d s b w hF hd hw K hK => ?_) ?_
    · have hk : d 23 = false := by cases e : d 23 with | false => rfl | true => exact absurd ((p25_ hF.out) e 5 (by decide)) (by simp [hd])
      have hB : Below W0.heap.size W0 w := (p0_ hF.out) hk
      dsimp only
      go_simp
      exact hK.out (ups s 21 (.string { data := #[101, 120, 112, 97, 110, 100, 32, 51, 50, 45, 98, 121, 116, 101, 32, 107] })) b _ ⟨(fun _ => hB), (p1_ hF.out), (p2_ hF.out), (p3_ hF.out), (p4_ hF.out), (p5_ hF.out), (fun _ => rfl), (p7_ hF.out), (p8_ hF.out), (p9_ hF.out), (p10_ hF.out), (p11_ hF.out), (p12_ hF.out), (p13_ hF.out), (p14_ hF.out), (p15_ hF.out), (p16_ hF.out), (p17_ hF.out), (p18_ hF.out), (p19_ hF.out), (p20_ hF.out), (p21_ hF.out), (p22_ hF.out), (p23_ hF.out), (p24_ hF.out), (fun h => absurd ((p25_ hF.out) h 5 (by decide)) (by simp [hd])), (fun h => absurd ((p25_ hF.out) h 5 (by decide)) (by simp [hd]))⟩
    refine StepsF.cons (o := _) rfl (ws := []) (by kernel_rfl) (by decide) (fun d s b w hF hd hw K hK => ?_) ?_
    · have hk : d 23 = false := by cases e : d 23 with | false => rfl | true => exact absurd ((p25_ hF.out) e 6 (by decide)) (by simp [hd])
      have hB : Below W0.heap.size W0 w := (p0_ hF.out) hk
      dsimp only
      go_simp
      exact hK.out (ups s 22 (.int .i64 0)) b _ ⟨(fun _ => hB), (p1_ hF.out), (p2_ hF.out), (p3_ hF.out), (p4_ hF.out), (p5_ hF.out), (p6_ hF.out), (fun _ => rfl), (p8_ hF.out), (p9_ hF.out), (p10_ hF.out), (p11_ hF.out), (p12_ hF.out), (p13_ hF.out), (p14_ hF.out), (p15_ hF.out), (p16_ hF.out), (p17_ hF.out), (p18_ hF.out), (p19_ hF.out), (p20_ hF.out), (p21_ hF.out), (p22_ hF.out), (p23_ hF.out), (p24_ hF.out), (fun h => absurd ((p25_ hF.out) h 6 (by decide)) (by simp [hd])), (fun h => absurd ((p25_ hF.out) h 6 (by decide)) (by simp [hd]))⟩
    refine StepsF.cons (o := _) rfl (ws := [6]) (by kernel_rfl) (by decide) (fun d s b w hF hd hw K hK => ?_) ?_
    · have hk : d 23 = false := by cases e : d 23 with | false => rfl | true => exact absurd ((p25_ hF.out) e 7 (by decide)) (by simp [hd])
      have hB : Below W0.heap.size W0 w := (p0_ hF.out) hk
      have e6 : s 22 = .int .i64 0 := (p7_ hF.out) (hw 6 (by decide))
      dsimp only
      go_simp
      exact hK.out (ups (ups s 22 (.int .i64 0)) 23 (.int .i64 0)) b _ ⟨(fun _ => hB), (p1_ hF.out), (p2_ hF.out), (p3_ hF.out), (p4_ hF.out), (p5_ hF.out), (p6_ hF.out), (fun _ => rfl), (fun _ => rfl), (p9_ hF.out), (p10_ hF.out), (p11_ hF.out), (p12_ hF.out), (p13_ hF.out), (p14_ hF.out), (p15_ hF.out), (p16_ hF.out), (p17_ hF.out), (p18_ hF.out), (p19_ hF.out), (p20_ hF.out), (p21_ hF.out), (p22_ hF.out), (p23_ hF.out), (p24_ hF.out), (fun h => absurd ((p25_ hF.out) h 7 (by decide)) (by simp [hd])), (fun h => absurd ((p25_ hF.out) h 7 (by decide)) (by simp [hd]))⟩
    refine StepsF.cons (o := _) rfl (ws := [7]) (by kernel_rfl) (by decide) (fun d s b w hF hd hw K hK => ?_) ?_
    · have hk : d 23 = false := by cases e : d 23 with | false => rfl | true => exact absurd ((p25_ hF.out) e 8 (by decide)) (by simp [hd])
      have hB : Below W0.heap.size W0 w := (p0_ hF.out) hk
      have e7 : s 23 = .int .i64 0 := (p8_ hF.out) (hw 7 (by decide))
      dsimp only
      go_simp
      exact hK.out (ups (ups s 23 (.int .i64 0)) 24 (.int .i64 1)) b _ ⟨(fun _ => hB), (p1_ hF.out), (p2_ hF.out), (p3_ hF.out), (p4_ hF.out), (p5_ hF.out), (p6_ hF.out), (p7_ hF.out), (fun _ => rfl), (fun _ => rfl), (p10_ hF.out), (p11_ hF.out), (p12_ hF.out), (p13_ hF.out), (p14_ hF.out), (p15_ hF.out), (p16_ hF.out), (p17_ hF.out), (p18_ hF.out), (p19_ hF.out), (p20_ hF.out), (p21_ hF.out), (p22_ hF.out), (p23_ hF.out), (p24_ hF.out), (fun h => absurd ((p25_ hF.out) h 8 (by decide)) (by simp [hd])), (fun h => absurd ((p25_ hF.out) h 8 (by decide)) (by simp [hd]))⟩
    refine StepsF.cons (o := _) rfl (ws := [5, 8]) (by kernel_rfl) (by decide) (fun d s b w hF hd hw K hK => ?_) ?_
    · have hk : d 23 = false := by cases e : d 23 with | false => rfl | true => exact absurd ((p25_ hF.out) e 9 (by decide)) (by simp [hd])
      have hB : Below W0.heap.size W0 w := (p0_ hF.out) hk
      have e5 : s 21 = .string { data := #[101, 120, 112, 97, 110, 100, 32, 51, 50, 45, 98, 121, 116, 101, 32, 107] } := (p6_ hF.out) (hw 5 (by decide))
      have e8 : s 24 = .int .i64 1 := (p9_ hF.out) (hw 8 (by decide))
      dsimp only
      go_simp
      exact hK.out (ups (ups (ups s 21 (.string { data := #[101, 120, 112, 97, 110, 100, 32, 51, 50, 45, 98, 121, 116, 101, 32, 107] })) 24 (.int .i64 1)) 25 (.int .u8 120)) b _ ⟨(fun _ => hB), (p1_ hF.out), (p2_ hF.out), (p3_ hF.out), (p4_ hF.out), (p5_ hF.out), (fun _ => rfl), (p7_ hF.out), (p8_ hF.out), (fun _ => rfl), (fun _ => rfl), (p11_ hF.out), (p12_ hF.out), (p13_ hF.out), (p14_ hF.out), (p15_ hF.out), (p16_ hF.out), (p17_ hF.out), (p18_ hF.out), (p19_ hF.out), (p20_ hF.out), (p21_ hF.out), (p22_ hF.out), (p23_ hF.out), (p24_ hF.out), (fun h => absurd ((p25_ hF.out) h 9 (by decide)) (by simp [hd])), (fun h => absurd ((p25_ hF.out) h 9 (by decide)) (by simp [hd]))⟩
    refine StepsF.cons (o := _) rfl (ws := []) (by kernel_rfl) (by decide) (fun d s b w hF hd hw K hK => ?_) ?_
    · have hk : d 23 = false := by cases e : d 23 with | false => rfl | true => exact absurd ((p25_ hF.out) e 10 (by decide)) (by simp [hd])
      have hB : Below W0.heap.size W0 w := (p0_ hF.out) hk
      dsimp only
      go_simp
      exact hK.out (ups s 26 (.string { data := #[101, 120, 112, 97, 110, 100, 32, 51, 50, 45, 98, 121, 116, 101, 32, 107] })) b _ ⟨(fun _ => hB), (p1_ hF.out), (p2_ hF.out), (p3_ hF.out), (p4_ hF.out), (p5_ hF.out), (p6_ hF.out), (p7_ hF.out), (p8_ hF.out), (p9_ hF.out), (p10_ hF.out), (fun _ => rfl), (p12_ hF.out), (p13_ hF.out), (p14_ hF.out), (p15_ hF.out), (p16_ hF.out), (p17_ hF.out), (p18_ hF.out), (p19_ hF.out), (p20_ hF.out), (p21_ hF.out), (p22_ hF.out), (p23_ hF.out), (p24_ hF.out), (fun h => absurd ((p25_ hF.out) h 10 (by decide)) (by simp [hd])), (fun h => absurd ((p25_ hF.out) h 10 (by decide)) (by simp [hd]))⟩
    refine StepsF.cons (o := _) rfl (ws := []) (by kernel_rfl) (by decide) (fun d s b w hF hd hw K hK => ?_) ?_
    · have hk : d 23 = false := by cases e : d 23 with | false => rfl | true => exact absurd ((p25_ hF.out) e 11 (by decide)) (by simp [hd])
      have hB : Below W0.heap.size W0 w := (p0_ hF.out) hk
      dsimp only
      go_simp
      exact hK.out (ups s 27 (.int .i64 0)) b _ ⟨(fun _ => hB), (p1_ hF.out), (p2_ hF.out), (p3_ hF.out), (p4_ hF.out), (p5_ hF.out), (p6_ hF.out), (p7_ hF.out), (p8_ hF.out), (p9_ hF.out), (p10_ hF.out), (p11_ hF.out), (fun _ => rfl), (p13_ hF.out), (p14_ hF.out), (p15_ hF.out), (p16_ hF.out), (p17_ hF.out), (p18_ hF.out), (p19_ hF.out), (p20_ hF.out), (p21_ hF.out), (p22_ hF.out), (p23_ hF.out), (p24_ hF.out), (fun h => absurd ((p25_ hF.out) h 11 (by decide)) (by simp [hd])), (fun h => absurd ((p25_ hF.out) h 11 (by decide)) (by simp [hd]))⟩
    refine StepsF.cons (o := _) rfl (ws := [11]) (by kernel_rfl) (by decide) (fun d s b w hF hd hw K hK => ?_) ?_
    · have hk : d 23 = false := by cases e : d 23 with | false => rfl | true => exact absurd ((p25_ hF.out) e 12 (by decide)) (by simp [hd])
      have hB : Below W0.heap.size W0 w := (p0_ hF.out) hk
      have e11 : s 27 = .int .i64 0 := (p12_ hF.out) (hw 11 (by decide))
      dsimp only
      go_simp
      exact hK.out (ups (ups s 27 (.int .i64 0)) 28 (.int .i64 0)) b _ ⟨(fun _ => hB), (p1_ hF.out), (p2_ hF.out), (p3_ hF.out), (p4_ hF.out), (p5_ hF.out), (p6_ hF.out), (p7_ hF.out), (p8_ hF.out), (p9_ hF.out), (p10_ hF.out), (p11_ hF.out), (fun _ => rfl), (fun _ => rfl), (p14_ hF.out), (p15_ hF.out), (p16_ hF.out), (p17_ hF.out), (p18_ hF.out), (p19_ hF.out), (p20_ hF.out), (p21_ hF.out), (p22_ hF.out), (p23_ hF.out), (p24_ hF.out), (fun h => absurd ((p25_ hF.out) h 12 (by decide)) (by simp [hd])), (fun h => absurd ((p25_ hF.out) h 12 (by decide)) (by simp [hd]))⟩
    refine StepsF.cons (o := _) rfl (ws := [12]) (by kernel_rfl) (by decide) (fun d s b w hF hd hw K hK => ?_) ?_
    · have hk : d 23 = false := by cases e : d 23 with | false => rfl | true => exact absurd ((p25_ hF.out) e 13 (by decide)) (by simp [hd])
      have hB : Below W0.heap.size W0 w := (p0_ hF.out) hk
      have e12 : s 28 = .int .i64 0 := (p13_ hF.out) (hw 12 (by decide))
      dsimp only
      go_simp
      exact hK.out (ups (ups s 28 (.int .i64 0)) 29 (.int .i64 2)) b _ ⟨(fun _ => hB), (p1_ hF.out), (p2_ hF.out), (p3_ hF.out), (p4_ hF.out), (p5_ hF.out), (p6_ hF.out), (p7_ hF.out), (p8_ hF.out), (p9_ hF.out), (p10_ hF.out), (p11_ hF.out), (p12_ hF.out), (fun _ => rfl), (fun _ => rfl), (p15_ hF.out), (p16_ hF.out), (p17_ hF.out), (p18_ hF.out), (p19_ hF.out), (p20_ hF.out), (p21_ hF.out), (p22_ hF.out), (p23_ hF.out), (p24_ hF.out), (fun h => absurd ((p25_ hF.out) h 13 (by decide)) (by simp [hd])), (fun h => absurd ((p25_ hF.out) h 13 (by decide)) (by simp [hd]))⟩
    refine StepsF.cons (o := _) rfl (ws := [10, 13]) (by kernel_rfl) (by decide) (fun d s b w hF hd hw K hK => ?_) ?_
    · have hk : d 23 = false := by cases e : d 23 with | false => rfl | true => exact absurd ((p25_ hF.out) e 14 (by decide)) (by simp [hd])
      have hB : Below W0.heap.size W0 w := (p0_ hF.out) hk
      have e10 : s 26 = .string { data := #[101, 120, 112, 97, 110, 100, 32, 51, 50, 45, 98, 121, 116, 101, 32, 107] } := (p11_ hF.out) (hw 10 (by decide))
      have e13 : s 29 = .int .i64 2 := (p14_ hF.out) (hw 13 (by decide))
      dsimp only
      go_simp
      exact hK.out (ups (ups (ups s 26 (.string { data := #[101, 120, 112, 97, 110, 100, 32, 51, 50, 45, 98, 121, 116, 101, 32, 107] })) 29 (.int .i64 2)) 30 (.int .u8 112)) b _ ⟨(fun _ => hB), (p1_ hF.out), (p2_ hF.out), (p3_ hF.out), (p4_ hF.out), (p5_ hF.out), (p6_ hF.out), (p7_ hF.out), (p8_ hF.out), (p9_ hF.out), (p10_ hF.out), (fun _ => rfl), (p12_ hF.out), (p13_ hF.out), (fun _ => rfl), (fun _ => rfl), (p16_ hF.out), (p17_ hF.out), (p18_ hF.out), (p19_ hF.out), (p20_ hF.out), (p21_ hF.out), (p22_ hF.out), (p23_ hF.out), (p24_ hF.out), (fun h => absurd ((p25_ hF.out) h 14 (by decide)) (by simp [hd])), (fun h => absurd ((p25_ hF.out) h 14 (by decide)) (by simp [hd]))⟩
    refine StepsF.cons (o := _) rfl (ws := []) (by kernel_rfl) (by decide) (fun d s b w hF hd hw K hK => ?_) ?_
    · have hk : d 23 = false := by cases e : d 23 with | false => rfl | true => exact absurd ((p25_ hF.out) e 15 (by decide)) (by simp [hd])
      have hB : Below W0.heap.size W0 w := (p0_ hF.out) hk
      dsimp only
      go_simp
      exact hK.out (ups s 31 (.string { data := #[101, 120, 112, 97, 110, 100, 32, 51, 50, 45, 98, 121, 116, 101, 32, 107] })) b _ ⟨(fun _ => hB), (p1_ hF.out), (p2_ hF.out), (p3_ hF.out), (p4_ hF.out), (p5_ hF.out), (p6_ hF.out), (p7_ hF.out), (p8_ hF.out), (p9_ hF.out), (p10_ hF.out), (p11_ hF.out), (p12_ hF.out), (p13_ hF.out), (p14_ hF.out), (p15_ hF.out), (fun _ => rfl), (p17_ hF.out), (p18_ hF.out), (p19_ hF.out), (p20_ hF.out), (p21_ hF.out), (p22_ hF.out), (p23_ hF.out), (p24_ hF.out), (fun h => absurd ((p25_ hF.out) h 15 (by decide)) (by simp [hd])), (fun h => absurd ((p25_ hF.out) h 15 (by decide)) (by simp [hd]))⟩
    refine StepsF.cons (o := _) rfl (ws := []) (by kernel_rfl) (by decide) (fun d s b w hF hd hw K hK => ?_) ?_
    · have hk : d 23 = false := by cases e : d 23 with | false => rfl | true => exact absurd ((p25_ hF.out) e 16 (by decide)) (by simp [hd])
      have hB : Below W0.heap.size W0 w := (p0_ hF.out) hk
      dsimp only
      go_simp
      exact hK.out (ups s 32 (.int .i64 0)) b _ ⟨(fun _ => hB), (p1_ hF.out), (p2_ hF.out), (p3_ hF.out), (p4_ hF.out), (p5_ hF.out), (p6_ hF.out), (p7_ hF.out), (p8_ hF.out), (p9_ hF.out), (p10_ hF.out), (p11_ hF.out), (p12_ hF.out), (p13_ hF.out), (p14_ hF.out), (p15_ hF.out), (p16_ hF.out), (fun _ => rfl), (p18_ hF.out), (p19_ hF.out), (p20_ hF.out), (p21_ hF.out), (p22_ hF.out), (p23_ hF.out), (p24_ hF.out), (fun h => absurd ((p25_ hF.out) h 16 (by decide)) (by simp [hd])), (fun h => absurd ((p25_ hF.out) h 16 (by decide)) (by simp [hd]))⟩
    refine StepsF.cons (o := _) rfl (ws := [16]) (by kernel_rfl) (by decide) (fun d s b w hF hd hw K hK => ?_) ?_
    · have hk : d 23 = false := by cases e : d 23 with | false => rfl | true => exact absurd ((p25_ hF.out) e 17 (by decide)) (by simp [hd])
      have hB : Below W0.heap.size W0 w := (p0_ hF.out) hk
      have e16 : s 32 = .int .i64 0 := (p17_ hF.out) (hw 16 (by decide))
      dsimp only
      go_simp
      exact hK.out (ups (ups s 32 (.int .i64 0)) 33 (.int .i64 0)) b _ ⟨(fun _ => hB), (p1_ hF.out), (p2_ hF.out), (p3_ hF.out), (p4_ hF.out), (p5_ hF.out), (p6_ hF.out), (p7_ hF.out), (p8_ hF.out), (p9_ hF.out), (p10_ hF.out), (p11_ hF.out), (p12_ hF.out), (p13_ hF.out), (p14_ hF.out), (p15_ hF.out), (p16_ hF.out), (fun _ => rfl), (fun _ => rfl), (p19_ hF.out), (p20_ hF.out), (p21_ hF.out), (p22_ hF.out), (p23_ hF.out), (p24_ hF.out), (fun h => absurd ((p25_ hF.out) h 17 (by decide)) (by simp [hd])), (fun h => absurd ((p25_ hF.out) h 17 (by decide)) (by simp [hd]))⟩
    refine StepsF.cons (o := _) rfl (ws := [17]) (by kernel_rfl) (by decide) (fun d s b w hF hd hw K hK => ?_) ?_
    · have hk : d 23 = false := by cases e : d 23 with | false => rfl | true => exact absurd ((p25_ hF.out) e 18 (by decide)) (by simp [hd])
      have hB : Below W0.heap.size W0 w := (p0_ hF.out) hk
      have e17 : s 33 = .int .i64 0 := (p18_ hF.out) (hw 17 (by decide))
      dsimp only
      go_simp
      exact hK.out (ups (ups s 33 (.int .i64 0)) 34 (.int .i64 3)) b _ ⟨(fun _ => hB), (p1_ hF.out), (p2_ hF.out), (p3_ hF.out), (p4_ hF.out), (p5_ hF.out), (p6_ hF.out), (p7_ hF.out), (p8_ hF.out), (p9_ hF.out), (p10_ hF.out), (p11_ hF.out), (p12_ hF.out), (p13_ hF.out), (p14_ hF.out), (p15_ hF.out), (p16_ hF.out), (p17_ hF.out), (fun _ => rfl), (fun _ => rfl), (p20_ hF.out), (p21_ hF.out), (p22_ hF.out), (p23_ hF.out), (p24_ hF.out), (fun h => absurd ((p25_ hF.out) h 18 (by decide)) (by simp [hd])), (fun h => absurd ((p25_ hF.out) h 18 (by decide)) (by simp [hd]))⟩
    refine StepsF.cons (o := _) rfl (ws := [15, 18]) (by kernel_rfl) (by decide) (fun d s b w hF hd hw K hK => ?_) ?_
    · have hk : d 23 = false := by cases e : d 23 with | false => rfl | true => exact absurd ((p25_ hF.out) e 19 (by decide)) (by simp [hd])
      have hB : Below W0.heap.size W0 w := (p0_ hF.out) hk
      have e15 : s 31 = .string { data := #[101, 120, 112, 97, 110, 100, 32, 51, 50, 45, 98, 121, 116, 101, 32, 107] } := (p16_ hF.out) (hw 15 (by decide))
      have e18 : s 34 = .int .i64 3 := (p19_ hF.out) (hw 18 (by decide))
      dsimp only
      go_simp
      exact hK.out (ups (ups (ups s 31 (.string { data := #[101, 120, 112, 97, 110, 100, 32, 51, 50, 45, 98, 121, 116, 101, 32, 107] })) 34 (.int .i64 3)) 35 (.int .u8 97)) b _ ⟨(fun _ => hB), (p1_ hF.out), (p2_ hF.out), (p3_ hF.out), (p4_ hF.out), (p5_ hF.out), (p6_ hF.out), (p7_ hF.out), (p8_ hF.out), (p9_ hF.out), (p10_ hF.out), (p11_ hF.out), (p12_ hF.out), (p13_ hF.out), (p14_ hF.out), (p15_ hF.out), (fun _ => rfl), (p17_ hF.out), (p18_ hF.out), (fun _ => rfl), (fun _ => rfl), (p21_ hF.out), (p22_ hF.out), (p23_ hF.out), (p24_ hF.out), (fun h => absurd ((p25_ hF.out) h 19 (by decide)) (by simp [hd])), (fun h => absurd ((p25_ hF.out) h 19 (by decide)) (by simp [hd]))⟩
    refine StepsF.cons (o := _) rfl (ws := [4, 9, 14, 19]) (by kernel_rfl) (by decide) (fun d s b w hF hd hw K hK => ?_) ?_
    · have hk : d 23 = false := by cases e : d 23 with | false => rfl | true => exact absurd ((p25_ hF.out) e 20 (by decide)) (by simp [hd])
      have hB : Below W0.heap.size W0 w := (p0_ hF.out) hk
      have e4 : s 20 = .int .u8 101 := (p5_ hF.out) (hw 4 (by decide))
      have e9 : s 25 = .int .u8 120 := (p10_ hF.out) (hw 9 (by decide))
      have e14 : s 30 = .int .u8 112 := (p15_ hF.out) (hw 14 (by decide))
      have e19 : s 35 = .int .u8 97 := (p20_ hF.out) (hw 19 (by decide))
      dsimp only
      go_simp
      exact hK.out (ups (ups (ups (ups (ups s 20 (.int .u8 101)) 25 (.int .u8 120)) 30 (.int .u8 112)) 35 (.int .u8 97)) 36 (.slice (some ⟨w.heap.size, 0, none⟩) 4 4)) (ups b 20 w.heap.size) _ ⟨(fun _ => (hB.alloc hB.size _)), (p1_ hF.out), (p2_ hF.out), (p3_ hF.out), (p4_ hF.out), (fun _ => rfl), (p6_ hF.out), (p7_ hF.out), (p8_ hF.out), (p9_ hF.out), (fun _ => rfl), (p11_ hF.out), (p12_ hF.out), (p13_ hF.out), (p14_ hF.out), (fun _ => rfl), (p16_ hF.out), (p17_ hF.out), (p18_ hF.out), (p19_ hF.out), (fun _ => rfl), (fun _ => ⟨rfl, hB.size⟩), (fun _ _ => Own.newAt rfl), (p23_ hF.out), (p24_ hF.out), (fun h => absurd ((p25_ hF.out) h 20 (by decide)) (by simp [hd])), (fun h => absurd ((p25_ hF.out) h 20 (by decide)) (by simp [hd]))⟩
    refine StepsF.cons (o := _) rfl (ws := [20]) (by kernel_rfl) (by decide) (fun d s b w hF hd hw K hK => ?_) ?_
    · have hk : d 23 = false := by cases e : d 23 with | false => rfl | true => exact absurd ((p25_ hF.out) e 21 (by decide)) (by simp [hd])
      have hB : Below W0.heap.size W0 w := (p0_ hF.out) hk
      have e20 : s 36 = .slice (some ⟨(b 20), 0, none⟩) 4 4 := ((p21_ hF.out) (hw 20 (by decide))).1
      have le20 : W0.heap.size ≤ b 20 := ((p21_ hF.out) (hw 20 (by decide))).2
      dsimp only
      go_simp
      go_at_call 15
      refine (RNumber_new (b 20) 101 120 112 97 1634760805 (by unfold inB; decide) (by unfold inB; decide) (by unfold inB; decide) (by unfold inB; decide) (by decide) _ (((p22_ hF.out) (hw 20 (by decide))) hd)).mono ?_
      rintro e w1 ⟨rfl, hb⟩
      exact hK.out (ups (ups s 36 (.slice (some ⟨(b 20), 0, none⟩) 4 4)) 37 (.int .u32 1634760805)) b _ ⟨(fun _ => (Below.go hB hb)), (p1_ hF.out), (p2_ hF.out), (p3_ hF.out), (p4_ hF.out), (p5_ hF.out), (p6_ hF.out), (p7_ hF.out), (p8_ hF.out), (p9_ hF.out), (p10_ hF.out), (p11_ hF.out), (p12_ hF.out), (p13_ hF.out), (p14_ hF.out), (p15_ hF.out), (p16_ hF.out), (p17_ hF.out), (p18_ hF.out), (p19_ hF.out), (p20_ hF.out), (fun _ => ⟨rfl, le20⟩), (fun _ h => nomatch h), (fun _ => rfl), (p24_ hF.out), (fun h => absurd ((p25_ hF.out) h 21 (by decide)) (by simp [hd])), (fun h => absurd ((p25_ hF.out) h 21 (by decide)) (by simp [hd]))⟩
    refine StepsF.cons (o := _) rfl (ws := [0, 0, 1, 2, 3, 4, 5, 6, 7, 8, 9, 10, 11, 12, 13, 14, 15, 16, 17, 18, 19, 20, 21]) (by kernel_rfl) (by decide) (fun d s b w hF hd hw K hK => ?_) ?_
    · have hk : d 23 = false := by cases e : d 23 with | false => rfl | true => exact absurd ((p25_ hF.out) e 22 (by decide)) (by simp [hd])
      have hB : Below W0.heap.size W0 w := (p0_ hF.out) hk
      have e0 : s 16 = .int .i64 0 := (p1_ hF.out) (hw 0 (by decide))
      have e1 : s 17 = .string { data := #[101, 120, 112, 97, 110, 100, 32, 51, 50, 45, 98, 121, 116, 101, 32, 107] } := (p2_ hF.out) (hw 1 (by decide))
      have e2 : s 18 = .int .i64 0 := (p3_ hF.out) (hw 2 (by decide))
      have e3 : s 19 = .int .i64 0 := (p4_ hF.out) (hw 3 (by decide))
      have e4 : s 20 = .int .u8 101 := (p5_ hF.out) (hw 4 (by decide))
      have e5 : s 21 = .string { data := #[101, 120, 112, 97, 110, 100, 32, 51, 50, 45, 98, 121, 116, 101, 32, 107] } := (p6_ hF.out) (hw 5 (by decide))
      have e6 : s 22 = .int .i64 0 := (p7_ hF.out) (hw 6 (by decide))
      have e7 : s 23 = .int .i64 0 := (p8_ hF.out) (hw 7 (by decide))
      have e8 : s 24 = .int .i64 1 := (p9_ hF.out) (hw 8 (by decide))
      have e9 : s 25 = .int .u8 120 := (p10_ hF.out) (hw 9 (by decide))
      have e10 : s 26 = .string { data := #[101, 120, 112, 97, 110, 100, 32, 51, 50, 45, 98, 121, 116, 101, 32, 107] } := (p11_ hF.out) (hw 10 (by decide))
      have e11 : s 27 = .int .i64 0 := (p12_ hF.out) (hw 11 (by decide))
      have e12 : s 28 = .int .i64 0 := (p13_ hF.out) (hw 12 (by decide))
      have e13 : s 29 = .int .i64 2 := (p14_ hF.out) (hw 13 (by decide))
      have e14 : s 30 = .int .u8 112 := (p15_ hF.out) (hw 14 (by decide))
      have e15 : s 31 = .string { data := #[101, 120, 112, 97, 110, 100, 32, 51, 50, 45, 98, 121, 116, 101, 32, 107] } := (p16_ hF.out) (hw 15 (by decide))
      have e16 : s 32 = .int .i64 0 := (p17_ hF.out) (hw 16 (by decide))
      have e17 : s 33 = .int .i64 0 := (p18_ hF.out) (hw 17 (by decide))
      have e18 : s 34 = .int .i64 3 := (p19_ hF.out) (hw 18 (by decide))
      have e19 : s 35 = .int .u8 97 := (p20_ hF.out) (hw 19 (by decide))
      have e20 : s 36 = .slice (some ⟨(b 20), 0, none⟩) 4 4 := ((p21_ hF.out) (hw 20 (by decide))).1
      have le20 : W0.heap.size ≤ b 20 := ((p21_ hF.out) (hw 20 (by decide))).2
      have e21 : s 37 = .int .u32 1634760805 := (p23_ hF.out) (hw 21 (by decide))
      dsimp only
      go_simp
      exact hK.out (ups (ups (ups (ups (ups (ups (ups (ups (ups (ups (ups (ups (ups (ups (ups (ups (ups (ups (ups (ups (ups (ups (ups s 16 (.int .i64 0)) 17 (.string { data := #[101, 120, 112, 97, 110, 100, 32, 51, 50, 45, 98, 121, 116, 101, 32, 107] })) 18 (.int .i64 0)) 19 (.int .i64 0)) 20 (.int .u8 101)) 21 (.string { data := #[101, 120, 112, 97, 110, 100, 32, 51, 50, 45, 98, 121, 116, 101, 32, 107] })) 22 (.int .i64 0)) 23 (.int .i64 0)) 24 (.int .i64 1)) 25 (.int .u8 120)) 26 (.string { data := #[101, 120, 112, 97, 110, 100, 32, 51, 50, 45, 98, 121, 116, 101, 32, 107] })) 27 (.int .i64 0)) 28 (.int .i64 0)) 29 (.int .i64 2)) 30 (.int .u8 112)) 31 (.string { data := #[101, 120, 112, 97, 110, 100, 32, 51, 50, 45, 98, 121, 116, 101, 32, 107] })) 32 (.int .i64 0)) 33 (.int .i64 0)) 34 (.int .i64 3)) 35 (.int .u8 97)) 36 (.slice (some ⟨(b 20), 0, none⟩) 4 4)) 37 (.int .u32 1634760805)) 38 (.pointer (some ⟨S, 0, none⟩))) b _ ⟨(fun _ => hB), (fun _ => rfl), (fun _ => rfl), (fun _ => rfl), (fun _ => rfl), (fun _ => rfl), (fun _ => rfl), (fun _ => rfl), (fun _ => rfl), (fun _ => rfl), (fun _ => rfl), (fun _ => rfl), (fun _ => rfl), (fun _ => rfl), (fun _ => rfl), (fun _ => rfl), (fun _ => rfl), (fun _ => rfl), (fun _ => rfl), (fun _ => rfl), (fun _ => rfl), (fun _ => ⟨rfl, le20⟩), (p22_ hF.out), (fun _ => rfl), (fun _ => rfl), (fun h => absurd ((p25_ hF.out) h 22 (by decide)) (by simp [hd])), (fun h => absurd ((p25_ hF.out) h 22 (by decide)) (by simp [hd]))⟩
    refine StepsF.cons (o := _) rfl (ws := [22, 21, 21, 0, 1, 2, 3, 4, 5, 6, 7, 8, 9, 10, 11, 12, 13, 14, 15, 16, 17, 18, 19, 20, 21]) (by kernel_rfl) (by decide) (fun d s b w hF hd hw K hK => ?_) ?_
    · have hB : Below W0.heap.size W0 w := (p0_ hF.out) hd
      have e0 : s 16 = .int .i64 0 := (p1_ hF.out) (hw 0 (by decide))
      have e1 : s 17 = .string { data := #[101, 120, 112, 97, 110, 100, 32, 51, 50, 45, 98, 121, 116, 101, 32, 107] } := (p2_ hF.out) (hw 1 (by decide))
      have e2 : s 18 = .int .i64 0 := (p3_ hF.out) (hw 2 (by decide))
      have e3 : s 19 = .int .i64 0 := (p4_ hF.out) (hw 3 (by decide))
      have e4 : s 20 = .int .u8 101 := (p5_ hF.out) (hw 4 (by decide))
      have e5 : s 21 = .string { data := #[101, 120, 112, 97, 110, 100, 32, 51, 50, 45, 98, 121, 116, 101, 32, 107] } := (p6_ hF.out) (hw 5 (by decide))
      have e6 : s 22 = .int .i64 0 := (p7_ hF.out) (hw 6 (by decide))
      have e7 : s 23 = .int .i64 0 := (p8_ hF.out) (hw 7 (by decide))
      have e8 : s 24 = .int .i64 1 := (p9_ hF.out) (hw 8 (by decide))
      have e9 : s 25 = .int .u8 120 := (p10_ hF.out) (hw 9 (by decide))
      have e10 : s 26 = .string { data := #[101, 120, 112, 97, 110, 100, 32, 51, 50, 45, 98, 121, 116, 101, 32, 107] } := (p11_ hF.out) (hw 10 (by decide))
      have e11 : s 27 = .int .i64 0 := (p12_ hF.out) (hw 11 (by decide))
      have e12 : s 28 = .int .i64 0 := (p13_ hF.out) (hw 12 (by decide))
      have e13 : s 29 = .int .i64 2 := (p14_ hF.out) (hw 13 (by decide))
      have e14 : s 30 = .int .u8 112 := (p15_ hF.out) (hw 14 (by decide))
      have e15 : s 31 = .string { data := #[101, 120, 112, 97, 110, 100, 32, 51, 50, 45, 98, 121, 116, 101, 32, 107] } := (p16_ hF.out) (hw 15 (by decide))
      have e16 : s 32 = .int .i64 0 := (p17_ hF.out) (hw 16 (by decide))
      have e17 : s 33 = .int .i64 0 := (p18_ hF.out) (hw 17 (by decide))
      have e18 : s 34 = .int .i64 3 := (p19_ hF.out) (hw 18 (by decide))
      have e19 : s 35 = .int .u8 97 := (p20_ hF.out) (hw 19 (by decide))
      have e20 : s 36 = .slice (some ⟨(b 20), 0, none⟩) 4 4 := ((p21_ hF.out) (hw 20 (by decide))).1
      have le20 : W0.heap.size ≤ b 20 := ((p21_ hF.out) (hw 20 (by decide))).2
      have e21 : s 37 = .int .u32 1634760805 := (p23_ hF.out) (hw 21 (by decide))
      have e22 : s 38 = .pointer (some ⟨S, 0, none⟩) := (p24_ hF.out) (hw 22 (by decide))
      dsimp only
      have oX := HS.out.later hB
      have fr0 := oX.ok 0 (by simp)
      have ce0 := oX.at 0 _ rfl
      clear oX
      go_simp
      exact hK.out (ups (ups (ups (ups (ups (ups (ups (ups (ups (ups (ups (ups (ups (ups (ups (ups (ups (ups (ups (ups (ups (ups (ups s 16 (.int .i64 0)) 17 (.string { data := #[101, 120, 112, 97, 110, 100, 32, 51, 50, 45, 98, 121, 116, 101, 32, 107] })) 18 (.int .i64 0)) 19 (.int .i64 0)) 20 (.int .u8 101)) 21 (.string { data := #[101, 120, 112, 97, 110, 100, 32, 51, 50, 45, 98, 121, 116, 101, 32, 107] })) 22 (.int .i64 0)) 23 (.int .i64 0)) 24 (.int .i64 1)) 25 (.int .u8 120)) 26 (.string { data := #[101, 120, 112, 97, 110, 100, 32, 51, 50, 45, 98, 121, 116, 101, 32, 107] })) 27 (.int .i64 0)) 28 (.int .i64 0)) 29 (.int .i64 2)) 30 (.int .u8 112)) 31 (.string { data := #[101, 120, 112, 97, 110, 100, 32, 51, 50, 45, 98, 121, 116, 101, 32, 107] })) 32 (.int .i64 0)) 33 (.int .i64 0)) 34 (.int .i64 3)) 35 (.int .u8 97)) 36 (.slice (some ⟨(b 20), 0, none⟩) 4 4)) 37 (.int .u32 1634760805)) 38 (.pointer (some ⟨S, 0, none⟩))) b _ ⟨(fun h => nomatch h), (fun _ => rfl), (fun _ => rfl), (fun _ => rfl), (fun _ => rfl), (fun _ => rfl), (fun _ => rfl), (fun _ => rfl), (fun _ => rfl), (fun _ => rfl), (fun _ => rfl), (fun _ => rfl), (fun _ => rfl), (fun _ => rfl), (fun _ => rfl), (fun _ => rfl), (fun _ => rfl), (fun _ => rfl), (fun _ => rfl), (fun _ => rfl), (fun _ => rfl), (fun _ => ⟨rfl, le20⟩), (fun _ h => absurd (hw 21 (by simp)) (by have h2 : d 21 = false := h; simp [h2])), (fun _ => rfl), (fun _ => rfl), (fun _ j hj => by have hj2 := hw j (by simp; omega); simp [upd, hj2]), (fun _ => ⟨w, hB, rfl⟩)⟩
    exact StepsF.nil
  intro d s b y0 hF hall
  replace hF := Lib.hid hF
  obtain ⟨y0, hB, rfl⟩ := (q26_ hF.out) (hall 23 (by decide))
  try dsimp only
  have e0 : s 16 = .int .i64 0 := (p1_ hF.out) (hall 0 (by decide))
  have e1 : s 17 = .string { data := #[101, 120, 112, 97, 110, 100, 32, 51, 50, 45, 98, 121, 116, 101, 32, 107] } := (p2_ hF.out) (hall 1 (by decide))
  have e2 : s 18 = .int .i64 0 := (p3_ hF.out) (hall 2 (by decide))
  have e3 : s 19 = .int .i64 0 := (p4_ hF.out) (hall 3 (by decide))
  have e4 : s 20 = .int .u8 101 := (p5_ hF.out) (hall 4 (by decide))
  have e5 : s 21 = .string { data := #[101, 120, 112, 97, 110, 100, 32, 51, 50, 45, 98, 121, 116, 101, 32, 107] } := (p6_ hF.out) (hall 5 (by decide))
  have e6 : s 22 = .int .i64 0 := (p7_ hF.out) (hall 6 (by decide))
  have e7 : s 23 = .int .i64 0 := (p8_ hF.out) (hall 7 (by decide))
  have e8 : s 24 = .int .i64 1 := (p9_ hF.out) (hall 8 (by decide))
  have e9 : s 25 = .int .u8 120 := (p10_ hF.out) (hall 9 (by decide))
  have e10 : s 26 = .string { data := #[101, 120, 112, 97, 110, 100, 32, 51, 50, 45, 98, 121, 116, 101, 32, 107] } := (p11_ hF.out) (hall 10 (by decide))
  have e11 : s 27 = .int .i64 0 := (p12_ hF.out) (hall 11 (by decide))
  have e12 : s 28 = .int .i64 0 := (p13_ hF.out) (hall 12 (by decide))
  have e13 : s 29 = .int .i64 2 := (p14_ hF.out) (hall 13 (by decide))
  have e14 : s 30 = .int .u8 112 := (p15_ hF.out) (hall 14 (by decide))
  have e15 : s 31 = .string { data := #[101, 120, 112, 97, 110, 100, 32, 51, 50, 45, 98, 121, 116, 101, 32, 107] } := (p16_ hF.out) (hall 15 (by decide))
  have e16 : s 32 = .int .i64 0 := (p17_ hF.out) (hall 16 (by decide))
  have e17 : s 33 = .int .i64 0 := (p18_ hF.out) (hall 17 (by decide))
  have e18 : s 34 = .int .i64 3 := (p19_ hF.out) (hall 18 (by decide))
  have e19 : s 35 = .int .u8 97 := (p20_ hF.out) (hall 19 (by decide))
  have e20 : s 36 = .slice (some ⟨(b 20), 0, none⟩) 4 4 := ((p21_ hF.out) (hall 20 (by decide))).1
  have le20 : W0.heap.size ≤ b 20 := ((p21_ hF.out) (hall 20 (by decide))).2
  have e21 : s 37 = .int .u32 1634760805 := (p23_ hF.out) (hall 21 (by decide))
  have e22 : s 38 = .pointer (some ⟨S, 0, none⟩) := (p24_ hF.out) (hall 22 (by decide))
  rw [e0, e1, e2, e3, e4, e5, e6, e7, e8, e9, e10, e11, e12, e13, e14, e15, e16, e17, e18, e19, e20, e21, e22]
  clear hall hF e0 e1 e2 e3 e4 e5 e6 e7 e8 e9 e10 e11 e12 e13 e14 e15 e16 e17 e18 e19 e20 e21 e22
  obtain ⟨B, hz⟩ : ∃ x, x = b 20 := ⟨_, rfl⟩
  rw [← hz] at le20 ⊢
  clear hz
  clear d s b
  have HSk := Lib.hid (HS.out.later hB)
  have HKk := Lib.hid (HK.out.later hB)
  have HMk := Lib.hid (HM.out.later hB)
  have HRk := Lib.hid (HR.out.later hB)
  clear HS HK HM HR
  have HS := HSk
  clear HSk
  have HK := HKk
  clear HKk
  have HM := HMk
  clear HMk
  have HR := HRk
  clear HRk
  have hB1 := Below.go hB0 hB
  clear hB0 hB
  have hB0 := hB1
  clear hB1
  have HSn : Hid (Own S ([.int .u32 1634760805, .int .u32 0, .int .u32 0, .int .u32 0, .int .u32 0, .int .u32 0, .int .u32 0, .int .u32 0, .int .u32 0, .int .u32 0, .int .u32 0, .int .u32 0, .int .u32 0, .int .u32 0, .int .u32 0, .int .u32 0]) (y0.setCells S 0 [.int .u32 1634760805])) := Lib.hid (show Own S (over _ 0 [.int .u32 1634760805]) _ from Own.part HS.out (by simp))
  have HKn : Hid (Own K (nums .u8 kf 32) (y0.setCells S 0 [.int .u32 1634760805])) := Lib.hid (Own.far (o := 0) (vs := [.int .u32 1634760805]) HK.out nKS)
  have HMn : Hid (Own M (nums .u8 nf 12) (y0.setCells S 0 [.int .u32 1634760805])) := Lib.hid (Own.far (o := 0) (vs := [.int .u32 1634760805]) HM.out nMS)
  have HRn : Hid (Own R ([.int .u32 0, .int .u32 0, .int .u32 0, .int .u32 0, .int .u32 0, .int .u32 0, .int .u32 0, .int .u32 0, .int .u32 0, .int .u32 0, .int .u32 0, .int .u32 0, .int .u32 0, .int .u32 0, .int .u32 0, .int .u32 0]) (y0.setCells S 0 [.int .u32 1634760805])) := Lib.hid (Own.far (o := 0) (vs := [.int .u32 1634760805]) HR.out nRS)
  have hB0n : Below w.heap.size w (y0.setCells S 0 [.int .u32 1634760805]) := Below.setCells hB0 Sw [.int .u32 1634760805] 0
  clear HS HK HM HR hB0
  generalize (y0.setCells S 0 [.int .u32 1634760805]) = x0 at *
  have HS := HSn
  clear HSn
  have HK := HKn
  clear HKn
  have HM := HMn
  clear HMn
  have HR := HRn
  clear HRn
  have hB0 := hB0n
  clear hB0n
  go_wp2_with (fail)
  rw [rounds_succ]
  go_wp2_with (fail)
  refine wp_region_fun 24 (by kernel_rfl) (by kernel_rfl) rfl (fun s b => ⟨#[(.agg (nums .u8 kf 32).toArray), .int .u32 c, (.agg (nums .u8 nf 12).toArray), .pointer (some ⟨K, 0, none⟩), undef, .pointer (some ⟨M, 0, none⟩), .pointer (some ⟨R, 0, none⟩), .pointer (some ⟨S, 0, none⟩), .string { data := #[101, 120, 112, 97, 110, 100, 32, 51, 50, 45, 98, 121, 116, 101, 32, 107] }, .int .i64 1, undef, undef, .int .i64 1, .bool true, .int .i64 0, .int .i64 1, s 16, s 17, s 18, s 19, s 20, s 21, s 22, s 23, s 24, s 25, s 26, s 27, s 28, s 29, s 30, s 31, s 32, s 33, s 34, s 35, s 36, s 37, s 38, undef, undef, undef, undef, undef, undef, undef, undef, undef, undef, undef, undef, undef, undef, undef, undef, undef, undef, undef, undef, undef, undef, undef, undef, undef, undef, undef, undef, undef, undef, undef], []⟩) (fun d s b w => (d 23 = false → Below x0.heap.size x0 w) ∧ (d 0 = true → s 16 = .int .i64 1) ∧ (d 1 = true → s 17 = .string { data := #[101, 120, 112, 97, 110, 100, 32, 51, 50, 45, 98, 121, 116, 101, 32, 107] }) ∧ (d 2 = true → s 18 = .int .i64 1) ∧ (d 3 = true → s 19 = .int .i64 4) ∧ (d 4 = true → s 20 = .int .u8 110) ∧ (d 5 = true → s 21 = .string { data := #[101, 120, 112, 97, 110, 100, 32, 51, 50, 45, 98, 121, 116, 101, 32, 107] }) ∧ (d 6 = true → s 22 = .int .i64 1) ∧ (d 7 = true → s 23 = .int .i64 4) ∧ (d 8 = true → s 24 = .int .i64 5) ∧ (d 9 = true → s 25 = .int .u8 100) ∧ (d 10 = true → s 26 = .string { data := #[101, 120, 112, 97, 110, 100, 32, 51, 50, 45, 98, 121, 116, 101, 32, 107] }) ∧ (d 11 = true → s 27 = .int .i64 1) ∧ (d 12 = true → s 28 = .int .i64 4) ∧ (d 13 = true → s 29 = .int .i64 6) ∧ (d 14 = true → s 30 = .int .u8 32) ∧ (d 15 = true → s 31 = .string { data := #[101, 120, 112, 97, 110, 100, 32, 51, 50, 45, 98, 121, 116, 101, 32, 107] }) ∧ (d 16 = true → s 32 = .int .i64 1) ∧ (d 17 = true → s 33 = .int .i64 4) ∧ (d 18 = true → s 34 = .int .i64 7) ∧ (d 19 = true → s 35 = .int .u8 51) ∧ (d 20 = true → s 36 = .slice (some ⟨(b 20), 0, none⟩) 4 4 ∧ x0.heap.size ≤ b 20) ∧ (d 20 = true → d 21 = false → Own (b 20) [.int .u8 110, .int .u8 100, .int .u8 32, .int .u8 51] w) ∧ (d 21 = true → s 37 = .int .u32 857760878) ∧ (d 22 = true → s 38 = .pointer (some ⟨S, 1, none⟩)) ∧ (d 23 = true → ∀ j, j < 23 → d j = true) ∧ (d 23 = true → ∃ w2, Below x0.heap.size x0 w2 ∧ w = w2.setCells S 1 [.int .u32 857760878])) rfl ?h0y1 (?sty1 : StepsF _ _ _ _ 24 _ _ [0, 1, 2, 3, 4, 5, 6, 7, 8, 9, 10, 11, 12, 13, 14, 15, 16, 17, 18, 19, 20, 21, 22, 23]) ?dny1
  case h0y1 => exact ⟨fun _ => Below.drew (Below.refl _ _), (fun h => nomatch h), (fun h => nomatch h), (fun h => nomatch h), (fun h => nomatch h), (fun h => nomatch h), (fun h => nomatch h), (fun h => nomatch h), (fun h => nomatch h), (fun h => nomatch h), (fun h => nomatch h), (fun h => nomatch h), (fun h => nomatch h), (fun h => nomatch h), (fun h => nomatch h), (fun h => nomatch h), (fun h => nomatch h), (fun h => nomatch h), (fun h => nomatch h), (fun h => nomatch h), (fun h => nomatch h), (fun h => nomatch h), (fun h => nomatch h), (fun h => nomatch h), (fun h => nomatch h), (fun h => nomatch h), (fun h => nomatch h)⟩
  case sty1 =>
    refine StepsF.cons (o := _) rfl (ws := []) (by kernel_rfl) (by decide) (fun d s b w hF hd hw K hK => ?_) ?_
    · have hk : d 23 = false := by cases e : d 23 with | false => rfl | true => exact absurd ((p25_ hF.out) e 0 (by decide)) (by simp [hd])
      have hB : Below x0.heap.size x0 w := (p0_ hF.out) hk
      dsimp only
      go_simp
      exact hK.out (ups s 16 (.int .i64 1)) b _ ⟨(fun _ => hB), (fun _ => rfl), (p2_ hF.out), (p3_ hF.out), (p4_ hF.out), (p5_ hF.out), (p6_ hF.out), (p7_ hF.out), (p8_ hF.out), (p9_ hF.out), (p10_ hF.out), (p11_ hF.out), (p12_ hF.out), (p13_ hF.out), (p14_ hF.out), (p15_ hF.out), (p16_ hF.out), (p17_ hF.out), (p18_ hF.out), (p19_ hF.out), (p20_ hF.out), (p21_ hF.out), (p22_ hF.out), (p23_ hF.out), (p24_ hF.out), (fun h => absurd ((p25_ hF.out) h 0 (by decide)) (by simp [hd])), (fun h => absurd ((p25_ hF.out) h 0 (by decide)) (by simp [hd]))⟩
    refine StepsF.cons (o := _) rfl (ws := []) (by kernel_rfl) (by decide) (fun d s b w hF hd hw K hK => ?_) ?_
    · have hk : d 23 = false := by cases e : d 23 with | false => rfl | true => exact absurd ((p25_ hF.out) e 1 (by decide)) (by simp [hd])
      have hB : Below x0.heap.size x0 w := (p0_ hF.out) hk
      dsimp only
      go_simp
      exact hK.out (ups s 17 (.string { data := #[101, 120, 112, 97, 110, 100, 32, 51, 50, 45, 98, 121, 116, 101, 32, 107] })) b _ ⟨(fun _ => hB), (p1_ hF.out), (fun _ => rfl), (p3_ hF.out), (p4_ hF.out), (p5_ hF.out), (p6_ hF.out), (p7_ hF.out), (p8_ hF.out), (p9_ hF.out), (p10_ hF.out), (p11_ hF.out), (p12_ hF.out), (p13_ hF.out), (p14_ hF.out), (p15_ hF.out), (p16_ hF.out), (p17_ hF.out), (p18_ hF.out), (p19_ hF.out), (p20_ hF.out), (p21_ hF.out), (p22_ hF.out), (p23_ hF.out), (p24_ hF.out), (fun h => absurd ((p25_ hF.out) h 1 (by decide)) (by simp [hd])), (fun h => absurd ((p25_ hF.out) h 1 (by decide)) (by simp [hd]))⟩
    refine StepsF.cons (o := _) rfl (ws := []) (by kernel_rfl) (by decide) (fun d s b w hF hd hw K hK => ?_) ?_
    · have hk : d 23 = false := by cases e : d 23 with | false => rfl | true => exact absurd ((p25_ hF.out) e 2 (by decide)) (by simp [hd])
      have hB : Below x0.heap.size x0 w := (p0_ hF.out) hk
      dsimp only
      go_simp
      exact hK.out (ups s 18 (.int .i64 1)) b _ ⟨(fun _ => hB), (p1_ hF.out), (p2_ hF.out), (fun _ => rfl), (p4_ hF.out), (p5_ hF.out), (p6_ hF.out), (p7_ hF.out), (p8_ hF.out), (p9_ hF.out), (p10_ hF.out), (p11_ hF.out), (p12_ hF.out), (p13_ hF.out), (p14_ hF.out), (p15_ hF.out), (p16_ hF.out), (p17_ hF.out), (p18_ hF.out), (p19_ hF.out), (p20_ hF.out), (p21_ hF.out), (p22_ hF.out), (p23_ hF.out), (p24_ hF.out), (fun h => absurd ((p25_ hF.out) h 2 (by decide)) (by simp [hd])), (fun h => absurd ((p25_ hF.out) h 2 (by decide)) (by simp [hd]))⟩
    refine StepsF.cons (o := _) rfl (ws := [2]) (by kernel_rfl) (by decide) (fun d s b w hF hd hw K hK => ?_) ?_
    · have hk : d 23 = false := by cases e : d 23 with | false => rfl | true => exact absurd ((p25_ hF.out) e 3 (by decide)) (by simp [hd])
      have hB : Below x0.heap.size x0 w := (p0_ hF.out) hk
      have e2 : s 18 = .int .i64 1 := (p3_ hF.out) (hw 2 (by decide))
      dsimp only
      go_simp
      exact hK.out (ups (ups s 18 (.int .i64 1)) 19 (.int .i64 4)) b _ ⟨(fun _ => hB), (p1_ hF.out), (p2_ hF.out), (fun _ => rfl), (fun _ => rfl), (p5_ hF.out), (p6_ hF.out), (p7_ hF.out), (p8_ hF.out), (p9_ hF.out), (p10_ hF.out), (p11_ hF.out), (p12_ hF.out), (p13_ hF.out), (p14_ hF.out), (p15_ hF.out), (p16_ hF.out), (p17_ hF.out), (p18_ hF.out), (p19_ hF.out), (p20_ hF.out), (p21_ hF.out), (p22_ hF.out), (p23_ hF.out), (p24_ hF.out), (fun h => absurd ((p25_ hF.out) h 3 (by decide)) (by simp [hd])), (fun h => absurd ((p25_ hF.out) h 3 (by decide)) (by simp [hd]))⟩
    refine StepsF.cons (o := _) rfl (ws := [1, 3]) (by kernel_rfl) (by decide) (fun d s b w hF hd hw K hK => ?_) ?_
    · have hk : d 23 = false := by cases e : d 23 with | false => rfl | true => exact absurd ((p25_ hF.out) e 4 (by decide)) (by simp [hd])
      have hB : Below x0.heap.size x0 w := (p0_ hF.out) hk
      have e1 : s 17 = .string { data := #[101, 120, 112, 97, 110, 100, 32, 51, 50, 45, 98, 121, 116, 101, 32, 107] } := (p2_ hF.out) (hw 1 (by decide))
      have e3 : s 19 = .int .i64 4 := (p4_ hF.out) (hw 3 (by decide))
      dsimp only
      go_simp
      exact hK.out (ups (ups (ups s 17 (.string { data := #[101, 120, 112, 97, 110, 100, 32, 51, 50, 45, 98, 121, 116, 101, 32, 107] })) 19 (.int .i64 4)) 20 (.int .u8 110)) b _ ⟨(fun _ => hB), (p1_ hF.out), (fun _ => rfl), (p3_ hF.out), (fun _ => rfl), (fun _ => rfl), (p6_ hF.out), (p7_ hF.out), (p8_ hF.out), (p9_ hF.out), (p10_ hF.out), (p11_ hF.out), (p12_ hF.out), (p13_ hF.out), (p14_ hF.out), (p15_ hF.out), (p16_ hF.out), (p17_ hF.out), (p18_ hF.out), (p19_ hF.out), (p20_ hF.out), (p21_ hF.out), (p22_ hF.out), (p23_ hF.out), (p24_ hF.out), (fun h => absurd ((p25_ hF.out) h 4 (by decide)) (by simp [hd])), (fun h => absurd ((p25_ hF.out) h 4 (by decide)) (by simp [hd]))⟩
    refine StepsF.cons (o := _) rfl (ws := []) (by kernel_rfl) (by decide) (fun d s b w hF hd hw K hK => ?_) ?_
    · have hk : d 23 = false := by cases e : d 23 with | false => rfl | true => exact absurd ((p25_ hF.out) e 5 (by decide)) (by simp [hd])
      have hB : Below x0.heap.size x0 w := (p0_ hF.out) hk
      dsimp only
      go_simp
      exact hK.out (ups s 21 (.string { data := #[101, 120, 112, 97, 110, 100, 32, 51, 50, 45, 98, 121, 116, 101, 32, 107] })) b _ ⟨(fun _ => hB), (p1_ hF.out), (p2_ hF.out), (p3_ hF.out), (p4_ hF.out), (p5_ hF.out), (fun _ => rfl), (p7_ hF.out), (p8_ hF.out), (p9_ hF.out), (p10_ hF.out), (p11_ hF.out), (p12_ hF.out), (p13_ hF.out), (p14_ hF.out), (p15_ hF.out), (p16_ hF.out), (p17_ hF.out), (p18_ hF.out), (p19_ hF.out), (p20_ hF.out), (p21_ hF.out), (p22_ hF.out), (p23_ hF.out), (p24_ hF.out), (fun h => absurd ((p25_ hF.out) h 5 (by decide)) (by simp [hd])), (fun h => absurd ((p25_ hF.out) h 5 (by decide)) (by simp [hd]))⟩
    refine StepsF.cons (o := _) rfl (ws := []) (by kernel_rfl) (by decide) (fun d s b w hF hd hw K hK => ?_) ?_
    · have hk : d 23 = false := by cases e : d 23 with | false => rfl | true => exact absurd ((p25_ hF.out) e 6 (by decide)) (by simp [hd])
      have hB : Below x0.heap.size x0 w := (p0_ hF.out) hk
      dsimp only
      go_simp
      exact hK.out (ups s 22 (.int .i64 1)) b _ ⟨(fun _ => hB), (p1_ hF.out), (p2_ hF.out), (p3_ hF.out), (p4_ hF.out), (p5_ hF.out), (p6_ hF.out), (fun _ => rfl), (p8_ hF.out), (p9_ hF.out), (p10_ hF.out), (p11_ hF.out), (p12_ hF.out), (p13_ hF.out), (p14_ hF.out), (p15_ hF.out), (p16_ hF.out), (p17_ hF.out), (p18_ hF.out), (p19_ hF.out), (p20_ hF.out), (p21_ hF.out), (p22_ hF.out), (p23_ hF.out), (p24_ hF.out), (fun h => absurd ((p25_ hF.out) h 6 (by decide)) (by simp [hd])), (fun h => absurd ((p25_ hF.out) h 6 (by decide)) (by simp [hd]))⟩
    refine StepsF.cons (o := _) rfl (ws := [6]) (by kernel_rfl) (by decide) (fun d s b w hF hd hw K hK => ?_) ?_
    · have hk : d 23 = false := by cases e : d 23 with | false => rfl | true => exact absurd ((p25_ hF.out) e 7 (by decide)) (by simp [hd])
      have hB : Below x0.heap.size x0 w := (p0_ hF.out) hk
      have e6 : s 22 = .int .i64 1 := (p7_ hF.out) (hw 6 (by decide))
      dsimp only
      go_simp
      exact hK.out (ups (ups s 22 (.int .i64 1)) 23 (.int .i64 4)) b _ ⟨(fun _ => hB), (p1_ hF.out), (p2_ hF.out), (p3_ hF.out), (p4_ hF.out), (p5_ hF.out), (p6_ hF.out), (fun _ => rfl), (fun _ => rfl), (p9_ hF.out), (p10_ hF.out), (p11_ hF.out), (p12_ hF.out), (p13_ hF.out), (p14_ hF.out), (p15_ hF.out), (p16_ hF.out), (p17_ hF.out), (p18_ hF.out), (p19_ hF.out), (p20_ hF.out), (p21_ hF.out), (p22_ hF.out), (p23_ hF.out), (p24_ hF.out), (fun h => absurd ((p25_ hF.out) h 7 (by decide)) (by simp [hd])), (fun h => absurd ((p25_ hF.out) h 7 (by decide)) (by simp [hd]))⟩
    refine StepsF.cons (o := _) rfl (ws := [7]) (by kernel_rfl) (by decide) (fun d s b w hF hd hw K hK => ?_) ?_
    · have hk : d 23 = false := by cases e : d 23 with | false => rfl | true => exact absurd ((p25_ hF.out) e 8 (by decide)) (by simp [hd])
      have hB : Below x0.heap.size x0 w := (p0_ hF.out) hk
      have e7 : s 23 = .int .i64 4 := (p8_ hF.out) (hw 7 (by decide))
      dsimp only
      go_simp
      exact hK.out (ups (ups s 23 (.int .i64 4)) 24 (.int .i64 5)) b _ ⟨(fun _ => hB), (p1_ hF.out), (p2_ hF.out), (p3_ hF.out), (p4_ hF.out), (p5_ hF.out), (p6_ hF.out), (p7_ hF.out), (fun _ => rfl), (fun _ => rfl), (p10_ hF.out), (p11_ hF.out), (p12_ hF.out), (p13_ hF.out), (p14_ hF.out), (p15_ hF.out), (p16_ hF.out), (p17_ hF.out), (p18_ hF.out), (p19_ hF.out), (p20_ hF.out), (p21_ hF.out), (p22_ hF.out), (p23_ hF.out), (p24_ hF.out), (fun h => absurd ((p25_ hF.out) h 8 (by decide)) (by simp [hd])), (fun h => absurd ((p25_ hF.out) h 8 (by decide)) (by simp [hd]))⟩
    refine StepsF.cons (o := _) rfl (ws := [5, 8]) (by kernel_rfl) (by decide) (fun d s b w hF hd hw K hK => ?_) ?_
    · have hk : d 23 = false := by cases e : d 23 with | false => rfl | true => exact absurd ((p25_ hF.out) e 9 (by decide)) (by simp [hd])
      have hB : Below x0.heap.size x0 w := (p0_ hF.out) hk
      have e5 : s 21 = .string { data := #[101, 120, 112, 97, 110, 100, 32, 51, 50, 45, 98, 121, 116, 101, 32, 107] } := (p6_ hF.out) (hw 5 (by decide))
      have e8 : s 24 = .int .i64 5 := (p9_ hF.out) (hw 8 (by decide))
      dsimp only
      go_simp
      exact hK.out (ups (ups (ups s 21 (.string { data := #[101, 120, 112, 97, 110, 100, 32, 51, 50, 45, 98, 121, 116, 101, 32, 107] })) 24 (.int .i64 5)) 25 (.int .u8 100)) b _ ⟨(fun _ => hB), (p1_ hF.out), (p2_ hF.out), (p3_ hF.out), (p4_ hF.out), (p5_ hF.out), (fun _ => rfl), (p7_ hF.out), (p8_ hF.out), (fun _ => rfl), (fun _ => rfl), (p11_ hF.out), (p12_ hF.out), (p13_ hF.out), (p14_ hF.out), (p15_ hF.out), (p16_ hF.out), (p17_ hF.out), (p18_ hF.out), (p19_ hF.out), (p20_ hF.out), (p21_ hF.out), (p22_ hF.out), (p23_ hF.out), (p24_ hF.out), (fun h => absurd ((p25_ hF.out) h 9 (by decide)) (by simp [hd])), (fun h => absurd ((p25_ hF.out) h 9 (by decide)) (by simp [hd]))⟩
    refine StepsF.cons (o := _) rfl (ws := []) (by kernel_rfl) (by decide) (fun d s b w hF hd hw K hK => ?_) ?_
    · have hk : d 23 = false := by cases e : d 23 with | false => rfl | true => exact absurd ((p25_ hF.out) e 10 (by decide)) (by simp [hd])
      have hB : Below x0.heap.size x0 w := (p0_ hF.out) hk
      dsimp only
      go_simp
      exact hK.out (ups s 26 (.string { data := #[101, 120, 112, 97, 110, 100, 32, 51, 50, 45, 98, 121, 116, 101, 32, 107] })) b _ ⟨(fun _ => hB), (p1_ hF.out), (p2_ hF.out), (p3_ hF.out), (p4_ hF.out), (p5_ hF.out), (p6_ hF.out), (p7_ hF.out), (p8_ hF.out), (p9_ hF.out), (p10_ hF.out), (fun _ => rfl), (p12_ hF.out), (p13_ hF.out), (p14_ hF.out), (p15_ hF.out), (p16_ hF.out), (p17_ hF.out), (p18_ hF.out), (p19_ hF.out), (p20_ hF.out), (p21_ hF.out), (p22_ hF.out), (p23_ hF.out), (p24_ hF.out), (fun h => absurd ((p25_ hF.out) h 10 (by decide)) (by simp [hd])), (fun h => absurd ((p25_ hF.out) h 10 (by decide)) (by simp [hd]))⟩
    refine StepsF.cons (o := _) rfl (ws := []) (by kernel_rfl) (by decide) (fun d s b w hF hd hw K hK => ?_) ?_
    · have hk : d 23 = false := by cases e : d 23 with | false => rfl | true => exact absurd ((p25_ hF.out) e 11 (by decide)) (by simp [hd])
      have hB : Below x0.heap.size x0 w := (p0_ hF.out) hk
      dsimp only
      go_simp
      exact hK.out (ups s 27 (.int .i64 1)) b _ ⟨(fun _ => hB), (p1_ hF.out), (p2_ hF.out), (p3_ hF.out), (p4_ hF.out), (p5_ hF.out), (p6_ hF.out), (p7_ hF.out), (p8_ hF.out), (p9_ hF.out), (p10_ hF.out), (p11_ hF.out), (fun _ => rfl), (p13_ hF.out), (p14_ hF.out), (p15_ hF.out), (p16_ hF.out), (p17_ hF.out), (p18_ hF.out), (p19_ hF.out), (p20_ hF.out), (p21_ hF.out), (p22_ hF.out), (p23_ hF.out), (p24_ hF.out), (fun h => absurd ((p25_ hF.out) h 11 (by decide)) (by simp [hd])), (fun h => absurd ((p25_ hF.out) h 11 (by decide)) (by simp [hd]))⟩
    refine StepsF.cons (o := _) rfl (ws := [11]) (by kernel_rfl) (by decide) (fun d s b w hF hd hw K hK => ?_) ?_
    · have hk : d 23 = false := by cases e : d 23 with | false => rfl | true => exact absurd ((p25_ hF.out) e 12 (by decide)) (by simp [hd])
      have hB : Below x0.heap.size x0 w := (p0_ hF.out) hk
      have e11 : s 27 = .int .i64 1 := (p12_ hF.out) (hw 11 (by decide))
      dsimp only
      go_simp
      exact hK.out (ups (ups s 27 (.int .i64 1)) 28 (.int .i64 4)) b _ ⟨(fun _ => hB), (p1_ hF.out), (p2_ hF.out), (p3_ hF.out), (p4_ hF.out), (p5_ hF.out), (p6_ hF.out), (p7_ hF.out), (p8_ hF.out), (p9_ hF.out), (p10_ hF.out), (p11_ hF.out), (fun _ => rfl), (fun _ => rfl), (p14_ hF.out), (p15_ hF.out), (p16_ hF.out), (p17_ hF.out), (p18_ hF.out), (p19_ hF.out), (p20_ hF.out), (p21_ hF.out), (p22_ hF.out), (p23_ hF.out), (p24_ hF.out), (fun h => absurd ((p25_ hF.out) h 12 (by decide)) (by simp [hd])), (fun h => absurd ((p25_ hF.out) h 12 (by decide)) (by simp [hd]))⟩
    refine StepsF.cons (o := _) rfl (ws := [12]) (by kernel_rfl) (by decide) (fun d s b w hF hd hw K hK => ?_) ?_
    · have hk : d 23 = false := by cases e : d 23 with | false => rfl | true => exact absurd ((p25_ hF.out) e 13 (by decide)) (by simp [hd])
      have hB : Below x0.heap.size x0 w := (p0_ hF.out) hk
      have e12 : s 28 = .int .i64 4 := (p13_ hF.out) (hw 12 (by decide))
      dsimp only
      go_simp
      exact hK.out (ups (ups s 28 (.int .i64 4)) 29 (.int .i64 6)) b _ ⟨(fun _ => hB), (p1_ hF.out), (p2_ hF.out), (p3_ hF.out), (p4_ hF.out), (p5_ hF.out), (p6_ hF.out), (p7_ hF.out), (p8_ hF.out), (p9_ hF.out), (p10_ hF.out), (p11_ hF.out), (p12_ hF.out), (fun _ => rfl), (fun _ => rfl), (p15_ hF.out), (p16_ hF.out), (p17_ hF.out), (p18_ hF.out), (p19_ hF.out), (p20_ hF.out), (p21_ hF.out), (p22_ hF.out), (p23_ hF.out), (p24_ hF.out), (fun h => absurd ((p25_ hF.out) h 13 (by decide)) (by simp [hd])), (fun h => absurd ((p25_ hF.out) h 13 (by decide)) (by simp [hd]))⟩
    refine StepsF.cons (o := _) rfl (ws := [10, 13]) (by kernel_rfl) (by decide) (fun d s b w hF hd hw K hK => ?_) ?_
    · have hk : d 23 = false := by cases e : d 23 with | false => rfl | true => exact absurd ((p25_ hF.out) e 14 (by decide)) (by simp [hd])
      have hB : Below x0.heap.size x0 w := (p0_ hF.out) hk
      have e10 : s 26 = .string { data := #[101, 120, 112, 97, 110, 100, 32, 51, 50, 45, 98, 121, 116, 101, 32, 107] } := (p11_ hF.out) (hw 10 (by decide))
      have e13 : s 29 = .int .i64 6 := (p14_ hF.out) (hw 13 (by decide))
      dsimp only
      go_simp
      exact hK.out (ups (ups (ups s 26 (.string { data := #[101, 120, 112, 97, 110, 100, 32, 51, 50, 45, 98, 121, 116, 101, 32, 107] })) 29 (.int .i64 6)) 30 (.int .u8 32)) b _ ⟨(fun _ => hB), (p1_ hF.out), (p2_ hF.out), (p3_ hF.out), (p4_ hF.out), (p5_ hF.out), (p6_ hF.out), (p7_ hF.out), (p8_ hF.out), (p9_ hF.out), (p10_ hF.out), (fun _ => rfl), (p12_ hF.out), (p13_ hF.out), (fun _ => rfl), (fun _ => rfl), (p16_ hF.out), (p17_ hF.out), (p18_ hF.out), (p19_ hF.out), (p20_ hF.out), (p21_ hF.out), (p22_ hF.out), (p23_ hF.out), (p24_ hF.out), (fun h => absurd ((p25_ hF.out) h 14 (by decide)) (by simp [hd])), (fun h => absurd ((p25_ hF.out) h 14 (by decide)) (by simp [hd]))⟩
    refine StepsF.cons (o := _) rfl (ws := []) (by kernel_rfl) (by decide) (fun d s b w hF hd hw K hK => ?_) ?_
    · have hk : d 23 = false := by cases e : d 23 with | false => rfl | true => exact absurd ((p25_ hF.out) e 15 (by decide)) (by simp [hd])
      have hB : Below x0.heap.size x0 w := (p0_ hF.out) hk
      dsimp only
      go_simp
      exact hK.out (ups s 31 (.string { data := #[101, 120, 112, 97, 110, 100, 32, 51, 50, 45, 98, 121, 116, 101, 32, 107] })) b _ ⟨(fun _ => hB), (p1_ hF.out), (p2_ hF.out), (p3_ hF.out), (p4_ hF.out), (p5_ hF.out), (p6_ hF.out), (p7_ hF.out), (p8_ hF.out), (p9_ hF.out), (p10_ hF.out), (p11_ hF.out), (p12_ hF.out), (p13_ hF.out), (p14_ hF.out), (p15_ hF.out), (fun _ => rfl), (p17_ hF.out), (p18_ hF.out), (p19_ hF.out), (p20_ hF.out), (p21_ hF.out), (p22_ hF.out), (p23_ hF.out), (p24_ hF.out), (fun h => absurd ((p25_ hF.out) h 15 (by decide)) (by simp [hd])), (fun h => absurd ((p25_ hF.out) h 15 (by decide)) (by simp [hd]))⟩
    refine StepsF.cons (o := _) rfl (ws := []) (by kernel_rfl) (by decide) (fun d s b w hF hd hw K hK => ?_) ?_
    · have hk : d 23 = false := by cases e : d 23 with | false => rfl | true => exact absurd ((p25_ hF.out) e 16 (by decide)) (by simp [hd])
      have hB : Below x0.heap.size x0 w := (p0_ hF.out) hk
      dsimp only
      go_simp
      exact hK.out (ups s 32 (.int .i64 1)) b _ ⟨(fun _ => hB), (p1_ hF.out), (p2_ hF.out), (p3_ hF.out), (p4_ hF.out), (p5_ hF.out), (p6_ hF.out), (p7_ hF.out), (p8_ hF.out), (p9_ hF.out), (p10_ hF.out), (p11_ hF.out), (p12_ hF.out), (p13_ hF.out), (p14_ hF.out), (p15_ hF.out), (p16_ hF.out), (fun _ => rfl), (p18_ hF.out), (p19_ hF.out), (p20_ hF.out), (p21_ hF.out), (p22_ hF.out), (p23_ hF.out), (p24_ hF.out), (fun h => absurd ((p25_ hF.out) h 16 (by decide)) (by simp [hd])), (fun h => absurd ((p25_ hF.out) h 16 (by decide)) (by simp [hd]))⟩
    refine StepsF.cons (o := _) rfl (ws := [16]) (by kernel_rfl) (by decide) (fun d s b w hF hd hw K hK => ?_) ?_
    · have hk : d 23 = false := by cases e : d 23 with | false => rfl | true => exact absurd ((p25_ hF.out) e 17 (by decide)) (by simp [hd])
      have hB : Below x0.heap.size x0 w := (p0_ hF.out) hk
      have e16 : s 32 = .int .i64 1 := (p17_ hF.out) (hw 16 (by decide))
      dsimp only
      go_simp
      exact hK.out (ups (ups s 32 (.int .i64 1)) 33 (.int .i64 4)) b _ ⟨(fun _ => hB), (p1_ hF.out), (p2_ hF.out), (p3_ hF.out), (p4_ hF.out), (p5_ hF.out), (p6_ hF.out), (p7_ hF.out), (p8_ hF.out), (p9_ hF.out), (p10_ hF.out), (p11_ hF.out), (p12_ hF.out), (p13_ hF.out), (p14_ hF.out), (p15_ hF.out), (p16_ hF.out), (fun _ => rfl), (fun _ => rfl), (p19_ hF.out), (p20_ hF.out), (p21_ hF.out), (p22_ hF.out), (p23_ hF.out), (p24_ hF.out), (fun h => absurd ((p25_ hF.out) h 17 (by decide)) (by simp [hd])), (fun h => absurd ((p25_ hF.out) h 17 (by decide)) (by simp [hd]))⟩
    refine StepsF.cons (o := _) rfl (ws := [17]) (by kernel_rfl) (by decide) (fun d s b w hF hd hw K hK => ?_) ?_
    · have hk : d 23 = false := by cases e : d 23 with | false => rfl | true => exact absurd ((p25_ hF.out) e 18 (by decide)) (by simp [hd])
      have hB : Below x0.heap.size x0 w := (p0_ hF.out) hk
      have e17 : s 33 = .int .i64 4 := (p18_ hF.out) (hw 17 (by decide))
      dsimp only
      go_simp
      exact hK.out (ups (ups s 33 (.int .i64 4)) 34 (.int .i64 7)) b _ ⟨(fun _ => hB), (p1_ hF.out), (p2_ hF.out), (p3_ hF.out), (p4_ hF.out), (p5_ hF.out), (p6_ hF.out), (p7_ hF.out), (p8_ hF.out), (p9_ hF.out), (p10_ hF.out), (p11_ hF.out), (p12_ hF.out), (p13_ hF.out), (p14_ hF.out), (p15_ hF.out), (p16_ hF.out), (p17_ hF.out), (fun _ => rfl), (fun _ => rfl), (p20_ hF.out), (p21_ hF.out), (p22_ hF.out), (p23_ hF.out), (p24_ hF.out), (fun h => absurd ((p25_ hF.out) h 18 (by decide)) (by simp [hd])), (fun h => absurd ((p25_ hF.out) h 18 (by decide)) (by simp [hd]))⟩
    refine StepsF.cons (o := _) rfl (ws := [15, 18]) (by kernel_rfl) (by decide) (fun d s b w hF hd hw K hK => ?_) ?_
    · have hk : d 23 = false := by cases e : d 23 with | false => rfl | true => exact absurd ((p25_ hF.out) e 19 (by decide)) (by simp [hd])
      have hB : Below x0.heap.size x0 w := (p0_ hF.out) hk
      have e15 : s 31 = .string { data := #[101, 120, 112, 97, 110, 100, 32, 51, 50, 45, 98, 121, 116, 101, 32, 107] } := (p16_ hF.out) (hw 15 (by decide))
      have e18 : s 34 = .int .i64 7 := (p19_ hF.out) (hw 18 (by decide))
      dsimp only
      go_simp
      exact hK.out (ups (ups (ups s 31 (.string { data := #[101, 120, 112, 97, 110, 100, 32, 51, 50, 45, 98, 121, 116, 101, 32, 107] })) 34 (.int .i64 7)) 35 (.int .u8 51)) b _ ⟨(fun _ => hB), (p1_ hF.out), (p2_ hF.out), (p3_ hF.out), (p4_ hF.out), (p5_ hF.out), (p6_ hF.out), (p7_ hF.out), (p8_ hF.out), (p9_ hF.out), (p10_ hF.out), (p11_ hF.out), (p12_ hF.out), (p13_ hF.out), (p14_ hF.out), (p15_ hF.out), (fun _ => rfl), (p17_ hF.out), (p18_ hF.out), (fun _ => rfl), (fun _ => rfl), (p21_ hF.out), (p22_ hF.out), (p23_ hF.out), (p24_ hF.out), (fun h => absurd ((p25_ hF.out) h 19 (by decide)) (by simp [hd])), (fun h => absurd ((p25_ hF.out) h 19 (by decide)) (by simp [hd]))⟩
    refine StepsF.cons (o := _) rfl (ws := [4, 9, 14, 19]) (by kernel_rfl) (by decide) (fun d s b w hF hd hw K hK => ?_) ?_
    · have hk : d 23 = false := by cases e : d 23 with | false => rfl | true => exact absurd ((p25_ hF.out) e 20 (by decide)) (by simp [hd])
      have hB : Below x0.heap.size x0 w := (p0_ hF.out) hk
      have e4 : s 20 = .int .u8 110 := (p5_ hF.out) (hw 4 (by decide))
      have e9 : s 25 = .int .u8 100 := (p10_ hF.out) (hw 9 (by decide))
      have e14 : s 30 = .int .u8 32 := (p15_ hF.out) (hw 14 (by decide))
      have e19 : s 35 = .int .u8 51 := (p20_ hF.out) (hw 19 (by decide))
      dsimp only
      go_simp
      exact hK.out (ups (ups (ups (ups (ups s 20 (.int .u8 110)) 25 (.int .u8 100)) 30 (.int .u8 32)) 35 (.int .u8 51)) 36 (.slice (some ⟨w.heap.size, 0, none⟩) 4 4)) (ups b 20 w.heap.size) _ ⟨(fun _ => (hB.alloc hB.size _)), (p1_ hF.out), (p2_ hF.out), (p3_ hF.out), (p4_ hF.out), (fun _ => rfl), (p6_ hF.out), (p7_ hF.out), (p8_ hF.out), (p9_ hF.out), (fun _ => rfl), (p11_ hF.out), (p12_ hF.out), (p13_ hF.out), (p14_ hF.out), (fun _ => rfl), (p16_ hF.out), (p17_ hF.out), (p18_ hF.out), (p19_ hF.out), (fun _ => rfl), (fun _ => ⟨rfl, hB.size⟩), (fun _ _ => Own.newAt rfl), (p23_ hF.out), (p24_ hF.out), (fun h => absurd ((p25_ hF.out) h 20 (by decide)) (by simp [hd])), (fun h => absurd ((p25_ hF.out) h 20 (by decide)) (by simp [hd]))⟩
    refine StepsF.cons (o := _) rfl (ws := [20]) (by kernel_rfl) (by decide) (fun d s b w hF hd hw K hK => ?_) ?_
    · have hk : d 23 = false := by cases e : d 23 with | false => rfl | true => exact absurd ((p25_ hF.out) e 21 (by decide)) (by simp [hd])
      have hB : Below x0.heap.size x0 w := (p0_ hF.out) hk
      have e20 : s 36 = .slice (some ⟨(b 20), 0, none⟩) 4 4 := ((p21_ hF.out) (hw 20 (by decide))).1
      have le20 : x0.heap.size ≤ b 20 := ((p21_ hF.out) (hw 20 (by decide))).2
      dsimp only
      go_simp
      go_at_call 15
      refine (RNumber_new (b 20) 110 100 32 51 857760878 (by unfold inB; decide) (by unfold inB; decide) (by unfold inB; decide) (by unfold inB; decide) (by decide) _ (((p22_ hF.out) (hw 20 (by decide))) hd)).mono ?_
      rintro e w1 ⟨rfl, hb⟩
      exact hK.out (ups (ups s 36 (.slice (some ⟨(b 20), 0, none⟩) 4 4)) 37 (.int .u32 857760878)) b _ ⟨(fun _ => (Below.go hB hb)), (p1_ hF.out), (p2_ hF.out), (p3_ hF.out), (p4_ hF.out), (p5_ hF.out), (p6_ hF.out), (p7_ hF.out), (p8_ hF.out), (p9_ hF.out), (p10_ hF.out), (p11_ hF.out), (p12_ hF.out), (p13_ hF.out), (p14_ hF.out), (p15_ hF.out), (p16_ hF.out), (p17_ hF.out), (p18_ hF.out), (p19_ hF.out), (p20_ hF.out), (fun _ => ⟨rfl, le20⟩), (fun _ h => nomatch h), (fun _ => rfl), (p24_ hF.out), (fun h => absurd ((p25_ hF.out) h 21 (by decide)) (by simp [hd])), (fun h => absurd ((p25_ hF.out) h 21 (by decide)) (by simp [hd]))⟩
    refine StepsF.cons (o := _) rfl (ws := [0, 0, 1, 2, 3, 4, 5, 6, 7, 8, 9, 10, 11, 12, 13, 14, 15, 16, 17, 18, 19, 20, 21]) (by kernel_rfl) (by decide) (fun d s b w hF hd hw K hK => ?_) ?_
    · have hk : d 23 = false := by cases e : d 23 with | false => rfl | true => exact absurd ((p25_ hF.out) e 22 (by decide)) (by simp [hd])
      have hB : Below x0.heap.size x0 w := (p0_ hF.out) hk
      have e0 : s 16 = .int .i64 1 := (p1_ hF.out) (hw 0 (by decide))
      have e1 : s 17 = .string { data := #[101, 120, 112, 97, 110, 100, 32, 51, 50, 45, 98, 121, 116, 101, 32, 107] } := (p2_ hF.out) (hw 1 (by decide))
      have e2 : s 18 = .int .i64 1 := (p3_ hF.out) (hw 2 (by decide))
      have e3 : s 19 = .int .i64 4 := (p4_ hF.out) (hw 3 (by decide))
      have e4 : s 20 = .int .u8 110 := (p5_ hF.out) (hw 4 (by decide))
      have e5 : s 21 = .string { data := #[101, 120, 112, 97, 110, 100, 32, 51, 50, 45, 98, 121, 116, 101, 32, 107] } := (p6_ hF.out) (hw 5 (by decide))
      have e6 : s 22 = .int .i64 1 := (p7_ hF.out) (hw 6 (by decide))
      have e7 : s 23 = .int .i64 4 := (p8_ hF.out) (hw 7 (by decide))
      have e8 : s 24 = .int .i64 5 := (p9_ hF.out) (hw 8 (by decide))
      have e9 : s 25 = .int .u8 100 := (p10_ hF.out) (hw 9 (by decide))
      have e10 : s 26 = .string { data := #[101, 120, 112, 97, 110, 100, 32, 51, 50, 45, 98, 121, 116, 101, 32, 107] } := (p11_ hF.out) (hw 10 (by decide))
      have e11 : s 27 = .int .i64 1 := (p12_ hF.out) (hw 11 (by decide))
      have e12 : s 28 = .int .i64 4 := (p13_ hF.out) (hw 12 (by decide))
      have e13 : s 29 = .int .i64 6 := (p14_ hF.out) (hw 13 (by decide))
      have e14 : s 30 = .int .u8 32 := (p15_ hF.out) (hw 14 (by decide))
      have e15 : s 31 = .string { data := #[101, 120, 112, 97, 110, 100, 32, 51, 50, 45, 98, 121, 116, 101, 32, 107] } := (p16_ hF.out) (hw 15 (by decide))
      have e16 : s 32 = .int .i64 1 := (p17_ hF.out) (hw 16 (by decide))
      have e17 : s 33 = .int .i64 4 := (p18_ hF.out) (hw 17 (by decide))
      have e18 : s 34 = .int .i64 7 := (p19_ hF.out) (hw 18 (by decide))
      have e19 : s 35 = .int .u8 51 := (p20_ hF.out) (hw 19 (by decide))
      have e20 : s 36 = .slice (some ⟨(b 20), 0, none⟩) 4 4 := ((p21_ hF.out) (hw 20 (by decide))).1
      have le20 : x0.heap.size ≤ b 20 := ((p21_ hF.out) (hw 20 (by decide))).2
      have e21 : s 37 = .int .u32 857760878 := (p23_ hF.out) (hw 21 (by decide))
      dsimp only
      go_simp
      exact hK.out (ups (ups (ups (ups (ups (ups (ups (ups (ups (ups (ups (ups (ups (ups (ups (ups (ups (ups (ups (ups (ups (ups (ups s 16 (.int .i64 1)) 17 (.string { data := #[101, 120, 112, 97, 110, 100, 32, 51, 50, 45, 98, 121, 116, 101, 32, 107] })) 18 (.int .i64 1)) 19 (.int .i64 4)) 20 (.int .u8 110)) 21 (.string { data := #[101, 120, 112, 97, 110, 100, 32, 51, 50, 45, 98, 121, 116, 101, 32, 107] })) 22 (.int .i64 1)) 23 (.int .i64 4)) 24 (.int .i64 5)) 25 (.int .u8 100)) 26 (.string { data := #[101, 120, 112, 97, 110, 100, 32, 51, 50, 45, 98, 121, 116, 101, 32, 107] })) 27 (.int .i64 1)) 28 (.int .i64 4)) 29 (.int .i64 6)) 30 (.int .u8 32)) 31 (.string { data := #[101, 120, 112, 97, 110, 100, 32, 51, 50, 45, 98, 121, 116, 101, 32, 107] })) 32 (.int .i64 1)) 33 (.int .i64 4)) 34 (.int .i64 7)) 35 (.int .u8 51)) 36 (.slice (some ⟨(b 20), 0, none⟩) 4 4)) 37 (.int .u32 857760878)) 38 (.pointer (some ⟨S, 1, none⟩))) b _ ⟨(fun _ => hB), (fun _ => rfl), (fun _ => rfl), (fun _ => rfl), (fun _ => rfl), (fun _ => rfl), (fun _ => rfl), (fun _ => rfl), (fun _ => rfl), (fun _ => rfl), (fun _ => rfl), (fun _ => rfl), (fun _ => rfl), (fun _ => rfl), (fun _ => rfl), (fun _ => rfl), (fun _ => rfl), (fun _ => rfl), (fun _ => rfl), (fun _ => rfl), (fun _ => rfl), (fun _ => ⟨rfl, le20⟩), (p22_ hF.out), (fun _ => rfl), (fun _ => rfl), (fun h => absurd ((p25_ hF.out) h 22 (by decide)) (by simp [hd])), (fun h => absurd ((p25_ hF.out) h 22 (by decide)) (by simp [hd]))⟩
    refine StepsF.cons (o := _) rfl (ws := [22, 21, 21, 0, 1, 2, 3, 4, 5, 6, 7, 8, 9, 10, 11, 12, 13, 14, 15, 16, 17, 18, 19, 20, 21]) (by kernel_rfl) (by decide) (fun d s b w hF hd hw K hK => ?_) ?_
    · have hB : Below x0.heap.size x0 w := (p0_ hF.out) hd
      have e0 : s 16 = .int .i64 1 := (p1_ hF.out) (hw 0 (by decide))
      have e1 : s 17 = .string { data := #[101, 120, 112, 97, 110, 100, 32, 51, 50, 45, 98, 121, 116, 101, 32, 107] } := (p2_ hF.out) (hw 1 (by decide))
      have e2 : s 18 = .int .i64 1 := (p3_ hF.out) (hw 2 (by decide))
      have e3 : s 19 = .int .i64 4 := (p4_ hF.out) (hw 3 (by decide))
      have e4 : s 20 = .int .u8 110 := (p5_ hF.out) (hw 4 (by decide))
      have e5 : s 21 = .string { data := #[101, 120, 112, 97, 110, 100, 32, 51, 50, 45, 98, 121, 116, 101, 32, 107] } := (p6_ hF.out) (hw 5 (by decide))
      have e6 : s 22 = .int .i64 1 := (p7_ hF.out) (hw 6 (by decide))
      have e7 : s 23 = .int .i64 4 := (p8_ hF.out) (hw 7 (by decide))
      have e8 : s 24 = .int .i64 5 := (p9_ hF.out) (hw 8 (by decide))
      have e9 : s 25 = .int .u8 100 := (p10_ hF.out) (hw 9 (by decide))
      have e10 : s 26 = .string { data := #[101, 120, 112, 97, 110, 100, 32, 51, 50, 45, 98, 121, 116, 101, 32, 107] } := (p11_ hF.out) (hw 10 (by decide))
      have e11 : s 27 = .int .i64 1 := (p12_ hF.out) (hw 11 (by decide))
      have e12 : s 28 = .int .i64 4 := (p13_ hF.out) (hw 12 (by decide))
      have e13 : s 29 = .int .i64 6 := (p14_ hF.out) (hw 13 (by decide))
      have e14 : s 30 = .int .u8 32 := (p15_ hF.out) (hw 14 (by decide))
      have e15 : s 31 = .string { data := #[101, 120, 112, 97, 110, 100, 32, 51, 50, 45, 98, 121, 116, 101, 32, 107] } := (p16_ hF.out) (hw 15 (by decide))
      have e16 : s 32 = .int .i64 1 := (p17_ hF.out) (hw 16 (by decide))
      have e17 : s 33 = .int .i64 4 := (p18_ hF.out) (hw 17 (by decide))
      have e18 : s 34 = .int .i64 7 := (p19_ hF.out) (hw 18 (by decide))
      have e19 : s 35 = .int .u8 51 := (p20_ hF.out) (hw 19 (by decide))
      have e20 : s 36 = .slice (some ⟨(b 20), 0, none⟩) 4 4 := ((p21_ hF.out) (hw 20 (by decide))).1
      have le20 : x0.heap.size ≤ b 20 := ((p21_ hF.out) (hw 20 (by decide))).2
      have e21 : s 37 = .int .u32 857760878 := (p23_ hF.out) (hw 21 (by decide))
      have e22 : s 38 = .pointer (some ⟨S, 1, none⟩) := (p24_ hF.out) (hw 22 (by decide))
      dsimp only
      have oX := HS.out.later hB
      have fr1 := oX.ok 1 (by simp)
      have ce1 := oX.at 1 _ rfl
      clear oX
      go_simp
      exact hK.out (ups (ups (ups (ups (ups (ups (ups (ups (ups (ups (ups (ups (ups (ups (ups (ups (ups (ups (ups (ups (ups (ups (ups s 16 (.int .i64 1)) 17 (.string { data := #[101, 120, 112, 97, 110, 100, 32, 51, 50, 45, 98, 121, 116, 101, 32, 107] })) 18 (.int .i64 1)) 19 (.int .i64 4)) 20 (.int .u8 110)) 21 (.string { data := #[101, 120, 112, 97, 110, 100, 32, 51, 50, 45, 98, 121, 116, 101, 32, 107] })) 22 (.int .i64 1)) 23 (.int .i64 4)) 24 (.int .i64 5)) 25 (.int .u8 100)) 26 (.string { data := #[101, 120, 112, 97, 110, 100, 32, 51, 50, 45, 98, 121, 116, 101, 32, 107] })) 27 (.int .i64 1)) 28 (.int .i64 4)) 29 (.int .i64 6)) 30 (.int .u8 32)) 31 (.string { data := #[101, 120, 112, 97, 110, 100, 32, 51, 50, 45, 98, 121, 116, 101, 32, 107] })) 32 (.int .i64 1)) 33 (.int .i64 4)) 34 (.int .i64 7)) 35 (.int .u8 51)) 36 (.slice (some ⟨(b 20), 0, none⟩) 4 4)) 37 (.int .u32 857760878)) 38 (.pointer (some ⟨S, 1, none⟩))) b _ ⟨(fun h => nomatch h), (fun _ => rfl), (fun _ => rfl), (fun _ => rfl), (fun _ => rfl), (fun _ => rfl), (fun _ => rfl), (fun _ => rfl), (fun _ => rfl), (fun _ => rfl), (fun _ => rfl), (fun _ => rfl), (fun _ => rfl), (fun _ => rfl), (fun _ => rfl), (fun _ => rfl), (fun _ => rfl), (fun _ => rfl), (fun _ => rfl), (fun _ => rfl), (fun _ => rfl), (fun _ => ⟨rfl, le20⟩), (fun _ h => absurd (hw 21 (by simp)) (by have h2 : d 21 = false := h; simp [h2])), (fun _ => rfl), (fun _ => rfl), (fun _ j hj => by have hj2 := hw j (by simp; omega); simp [upd, hj2]), (fun _ => ⟨w, hB, rfl⟩)⟩
    exact StepsF.nil
  intro d s b y1 hF hall
  replace hF := Lib.hid hF
  obtain ⟨y1, hB, rfl⟩ := (q26_ hF.out) (hall 23 (by decide))
  try dsimp only
  have e0 : s 16 = .int .i64 1 := (p1_ hF.out) (hall 0 (by decide))
  have e1 : s 17 = .string { data := #[101, 120, 112, 97, 110, 100, 32, 51, 50, 45, 98, 121, 116, 101, 32, 107] } := (p2_ hF.out) (hall 1 (by decide))
  have e2 : s 18 = .int .i64 1 := (p3_ hF.out) (hall 2 (by decide))
  have e3 : s 19 = .int .i64 4 := (p4_ hF.out) (hall 3 (by decide))
  have e4 : s 20 = .int .u8 110 := (p5_ hF.out) (hall 4 (by decide))
  have e5 : s 21 = .string { data := #[101, 120, 112, 97, 110, 100, 32, 51, 50, 45, 98, 121, 116, 101, 32, 107] } := (p6_ hF.out) (hall 5 (by decide))
  have e6 : s 22 = .int .i64 1 := (p7_ hF.out) (hall 6 (by decide))
  have e7 : s 23 = .int .i64 4 := (p8_ hF.out) (hall 7 (by decide))
  have e8 : s 24 = .int .i64 5 := (p9_ hF.out) (hall 8 (by decide))
  have e9 : s 25 = .int .u8 100 := (p10_ hF.out) (hall 9 (by decide))
  have e10 : s 26 = .string { data := #[101, 120, 112, 97, 110, 100, 32, 51, 50, 45, 98, 121, 116, 101, 32, 107] } := (p11_ hF.out) (hall 10 (by decide))
  have e11 : s 27 = .int .i64 1 := (p12_ hF.out) (hall 11 (by decide))
  have e12 : s 28 = .int .i64 4 := (p13_ hF.out) (hall 12 (by decide))
  have e13 : s 29 = .int .i64 6 := (p14_ hF.out) (hall 13 (by decide))
  have e14 : s 30 = .int .u8 32 := (p15_ hF.out) (hall 14 (by decide))
  have e15 : s 31 = .string { data := #[101, 120, 112, 97, 110, 100, 32, 51, 50, 45, 98, 121, 116, 101, 32, 107] } := (p16_ hF.out) (hall 15 (by decide))
  have e16 : s 32 = .int .i64 1 := (p17_ hF.out) (hall 16 (by decide))
  have e17 : s 33 = .int .i64 4 := (p18_ hF.out) (hall 17 (by decide))
  have e18 : s 34 = .int .i64 7 := (p19_ hF.out) (hall 18 (by decide))
  have e19 : s 35 = .int .u8 51 := (p20_ hF.out) (hall 19 (by decide))
  have e20 : s 36 = .slice (some ⟨(b 20), 0, none⟩) 4 4 := ((p21_ hF.out) (hall 20 (by decide))).1
  have le20 : x0.heap.size ≤ b 20 := ((p21_ hF.out) (hall 20 (by decide))).2
  have e21 : s 37 = .int .u32 857760878 := (p23_ hF.out) (hall 21 (by decide))
  have e22 : s 38 = .pointer (some ⟨S, 1, none⟩) := (p24_ hF.out) (hall 22 (by decide))
  rw [e0, e1, e2, e3, e4, e5, e6, e7, e8, e9, e10, e11, e12, e13, e14, e15, e16, e17, e18, e19, e20, e21, e22]
  clear hall hF e0 e1 e2 e3 e4 e5 e6 e7 e8 e9 e10 e11 e12 e13 e14 e15 e16 e17 e18 e19 e20 e21 e22
  obtain ⟨B, hz⟩ : ∃ x, x = b 20 := ⟨_, rfl⟩
  rw [← hz] at le20 ⊢
  clear hz
  clear d s b
  have HSk := Lib.hid (HS.out.later hB)
  have HKk := Lib.hid (HK.out.later hB)
  have HMk := Lib.hid (HM.out.later hB)
  have HRk := Lib.hid (HR.out.later hB)
  clear HS HK HM HR
  have HS := HSk
  clear HSk
  have HK := HKk
  clear HKk
  have HM := HMk
  clear HMk
  have HR := HRk
  clear HRk
  have hB1 := Below.go hB0 hB
  clear hB0 hB
  have hB0 := hB1
  clear hB1
  have HSn : Hid (Own S ([.int .u32 1634760805, .int .u32 857760878, .int .u32 0, .int .u32 0, .int .u32 0, .int .u32 0, .int .u32 0, .int .u32 0, .int .u32 0, .int .u32 0, .int .u32 0, .int .u32 0, .int .u32 0, .int .u32 0, .int .u32 0, .int .u32 0]) (y1.setCells S 1 [.int .u32 857760878])) := Lib.hid (show Own S (over _ 1 [.int .u32 857760878]) _ from Own.part HS.out (by simp))
  have HKn : Hid (Own K (nums .u8 kf 32) (y1.setCells S 1 [.int .u32 857760878])) := Lib.hid (Own.far (o := 1) (vs := [.int .u32 857760878]) HK.out nKS)
  have HMn : Hid (Own M (nums .u8 nf 12) (y1.setCells S 1 [.int .u32 857760878])) := Lib.hid (Own.far (o := 1) (vs := [.int .u32 857760878]) HM.out nMS)
  have HRn : Hid (Own R ([.int .u32 0, .int .u32 0, .int .u32 0, .int .u32 0, .int .u32 0, .int .u32 0, .int .u32 0, .int .u32 0, .int .u32 0, .int .u32 0, .int .u32 0, .int .u32 0, .int .u32 0, .int .u32 0, .int .u32 0, .int .u32 0]) (y1.setCells S 1 [.int .u32 857760878])) := Lib.hid (Own.far (o := 1) (vs := [.int .u32 857760878]) HR.out nRS)
  have hB0n : Below w.heap.size w (y1.setCells S 1 [.int .u32 857760878]) := Below.setCells hB0 Sw [.int .u32 857760878] 1
  clear HS HK HM HR hB0
  generalize (y1.setCells S 1 [.int .u32 857760878]) = x1 at *
  have HS := HSn
  clear HSn
  have HK := HKn
  clear HKn
  have HM := HMn
  clear HMn
  have HR := HRn
  clear HRn
  have hB0 := hB0n
  clear hB0n
  go_wp2_with (fail)
  rw [rounds_succ]
  go_wp2_with (fail)
  refine wp_region_fun 24 (by kernel_rfl) (by kernel_rfl) rfl (fun s b => ⟨#[(.agg (nums .u8 kf 32).toArray), .int .u32 c, (.agg (nums .u8 nf 12).toArray), .pointer (some ⟨K, 0, none⟩), undef, .pointer (some ⟨M, 0, none⟩), .pointer (some ⟨R, 0, none⟩), .pointer (some ⟨S, 0, none⟩), .string { data := #[101, 120, 112, 97, 110, 100, 32, 51, 50, 45, 98, 121, 116, 101, 32, 107] }, .int .i64 2, undef, undef, .int .i64 2, .bool true, .int .i64 1, .int .i64 2, s 16, s 17, s 18, s 19, s 20, s 21, s 22, s 23, s 24, s 25, s 26, s 27, s 28, s 29, s 30, s 31, s 32, s 33, s 34, s 35, s 36, s 37, s 38, undef, undef, undef, undef, undef, undef, undef, undef, undef, undef, undef, undef, undef, undef, undef, undef, undef, undef, undef, undef, undef, undef, undef, undef, undef, undef, undef, undef, undef, undef, undef], []⟩) (fun d s b w => (d 23 = false → Below x1.heap.size x1 w) ∧ (d 0 = true → s 16 = .int .i64 2) ∧ (d 1 = true → s 17 = .string { data := #[101, 120, 112, 97, 110, 100, 32, 51, 50, 45, 98, 121, 116, 101, 32, 107] }) ∧ (d 2 = true → s 18 = .int .i64 2) ∧ (d 3 = true → s 19 = .int .i64 8) ∧ (d 4 = true → s 20 = .int .u8 50) ∧ (d 5 = true → s 21 = .string { data := #[101, 120, 112, 97, 110, 100, 32, 51, 50, 45, 98, 121, 116, 101, 32, 107] }) ∧ (d 6 = true → s 22 = .int .i64 2) ∧ (d 7 = true → s 23 = .int .i64 8) ∧ (d 8 = true → s 24 = .int .i64 9) ∧ (d 9 = true → s 25 = .int .u8 45) ∧ (d 10 = true → s 26 = .string { data := #[101, 120, 112, 97, 110, 100, 32, 51, 50, 45, 98, 121, 116, 101, 32, 107] }) ∧ (d 11 = true → s 27 = .int .i64 2) ∧ (d 12 = true → s 28 = .int .i64 8) ∧ (d 13 = true → s 29 = .int .i64 10) ∧ (d 14 = true → s 30 = .int .u8 98) ∧ (d 15 = true → s 31 = .string { data := #[101, 120, 112, 97, 110, 100, 32, 51, 50, 45, 98, 121, 116, 101, 32, 107] }) ∧ (d 16 = true → s 32 = .int .i64 2) ∧ (d 17 = true → s 33 = .int .i64 8) ∧ (d 18 = true → s 34 = .int .i64 11) ∧ (d 19 = true → s 35 = .int .u8 121) ∧ (d 20 = true → s 36 = .slice (some ⟨(b 20), 0, none⟩) 4 4 ∧ x1.heap.size ≤ b 20) ∧ (d 20 = true → d 21 = false → Own (b 20) [.int .u8 50, .int .u8 45, .int .u8 98, .int .u8 121] w) ∧ (d 21 = true → s 37 = .int .u32 2036477234) ∧ (d 22 = true → s 38 = .pointer (some ⟨S, 2, none⟩)) ∧ (d 23 = true → ∀ j, j < 23 → d j = true) ∧ (d 23 = true → ∃ w2, Below x1.heap.size x1 w2 ∧ w = w2.setCells S 2 [.int .u32 2036477234])) rfl ?h0y2 (?sty2 : StepsF _ _ _ _ 24 _ _ [0, 1, 2, 3, 4, 5, 6, 7, 8, 9, 10, 11, 12, 13, 14, 15, 16, 17, 18, 19, 20, 21, 22, 23]) ?dny2
  case h0y2 => exact ⟨fun _ => Below.drew (Below.refl _ _), (fun h => nomatch h), (fun h => nomatch h), (fun h => nomatch h), (fun h => nomatch h), (fun h => nomatch h), (fun h => nomatch h), (fun h => nomatch h), (fun h => nomatch h), (fun h => nomatch h), (fun h => nomatch h), (fun h => nomatch h), (fun h => nomatch h), (fun h => nomatch h), (fun h => nomatch h), (fun h => nomatch h), (fun h => nomatch h), (fun h => nomatch h), (fun h => nomatch h), (fun h => nomatch h), (fun h => nomatch h), (fun h => nomatch h), (fun h => nomatch h), (fun h => nomatch h), (fun h => nomatch h), (fun h => nomatch h), (fun h => nomatch h)⟩
  case sty2 =>
    refine StepsF.cons (o := _) rfl (ws := []) (by kernel_rfl) (by decide) (fun d s b w hF hd hw K hK => ?_) ?_
    · have hk : d 23 = false := by cases e : d 23 with | false => rfl | true => exact absurd ((p25_ hF.out) e 0 (by decide)) (by simp [hd])
      have hB : Below x1.heap.size x1 w := (p0_ hF.out) hk
      dsimp only
      go_simp
      exact hK.out (ups s 16 (.int .i64 2)) b _ ⟨(fun _ => hB), (fun _ => rfl), (p2_ hF.out), (p3_ hF.out), (p4_ hF.out), (p5_ hF.out), (p6_ hF.out), (p7_ hF.out), (p8_ hF.out), (p9_ hF.out), (p10_ hF.out), (p11_ hF.out), (p12_ hF.out), (p13_ hF.out), (p14_ hF.out), (p15_ hF.out), (p16_ hF.out), (p17_ hF.out), (p18_ hF.out), (p19_ hF.out), (p20_ hF.out), (p21_ hF.out), (p22_ hF.out), (p23_ hF.out), (p24_ hF.out), (fun h => absurd ((p25_ hF.out) h 0 (by decide)) (by simp [hd])), (fun h => absurd ((p25_ hF.out) h 0 (by decide)) (by simp [hd]))⟩
    refine StepsF.cons (o := _) rfl (ws := []) (by kernel_rfl) (by decide) (fun d s b w hF hd hw K hK => ?_) ?_
    · have hk : d 23 = false := by cases e : d 23 with | false => rfl | true => exact absurd ((p25_ hF.out) e 1 (by decide)) (by simp [hd])
      have hB : Below x1.heap.size x1 w := (p0_ hF.out) hk
      dsimp only
      go_simp
      exact hK.out (ups s 17 (.string { data := #[101, 120, 112, 97, 110, 100, 32, 51, 50, 45, 98, 121, 116, 101, 32, 107] })) b _ ⟨(fun _ => hB), (p1_ hF.out), (fun _ => rfl), (p3_ hF.out), (p4_ hF.out), (p5_ hF.out), (p6_ hF.out), (p7_ hF.out), (p8_ hF.out), (p9_ hF.out), (p10_ hF.out), (p11_ hF.out), (p12_ hF.out), (p13_ hF.out), (p14_ hF.out), (p15_ hF.out), (p16_ hF.out), (p17_ hF.out), (p18_ hF.out), (p19_ hF.out), (p20_ hF.out), (p21_ hF.out), (p22_ hF.out), (p23_ hF.out), (p24_ hF.out), (fun h => absurd ((p25_ hF.out) h 1 (by decide)) (by simp [hd])), (fun h => absurd ((p25_ hF.out) h 1 (by decide)) (by simp [hd]))⟩
    refine StepsF.cons (o := _) rfl (ws := []) (by kernel_rfl) (by decide) (fun d s b w hF hd hw K hK => ?_) ?_
    · have hk : d 23 = false := by cases e : d 23 with | false => rfl | true => exact absurd ((p25_ hF.out) e 2 (by decide)) (by simp [hd])
      have hB : Below x1.heap.size x1 w := (p0_ hF.out) hk
      dsimp only
      go_simp
      exact hK.out (ups s 18 (.int .i64 2)) b _ ⟨(fun _ => hB), (p1_ hF.out), (p2_ hF.out), (fun _ => rfl), (p4_ hF.out), (p5_ hF.out), (p6_ hF.out), (p7_ hF.out), (p8_ hF.out), (p9_ hF.out), (p10_ hF.out), (p11_ hF.out), (p12_ hF.out), (p13_ hF.out), (p14_ hF.out), (p15_ hF.out), (p16_ hF.out), (p17_ hF.out), (p18_ hF.out), (p19_ hF.out), (p20_ hF.out), (p21_ hF.out), (p22_ hF.out), (p23_ hF.out), (p24_ hF.out), (fun h => absurd ((p25_ hF.out) h 2 (by decide)) (by simp [hd])), (fun h => absurd ((p25_ hF.out) h 2 (by decide)) (by simp [hd]))⟩
    refine StepsF.cons (o := _) rfl (ws := [2]) (by kernel_rfl) (by decide) (fun d s b w hF hd hw K hK => ?_) ?_
    · have hk : d 23 = false := by cases e : d 23 with | false => rfl | true => exact absurd ((p25_ hF.out) e 3 (by decide)) (by simp [hd])
      have hB : Below x1.heap.size x1 w := (p0_ hF.out) hk
      have e2 : s 18 = .int .i64 2 := (p3_ hF.out) (hw 2 (by decide))
      dsimp only
      go_simp
      exact hK.out (ups (ups s 18 (.int .i64 2)) 19 (.int .i64 8)) b _ ⟨(fun _ => hB), (p1_ hF.out), (p2_ hF.out), (fun _ => rfl), (fun _ => rfl), (p5_ hF.out), (p6_ hF.out), (p7_ hF.out), (p8_ hF.out), (p9_ hF.out), (p10_ hF.out), (p11_ hF.out), (p12_ hF.out), (p13_ hF.out), (p14_ hF.out), (p15_ hF.out), (p16_ hF.out), (p17_ hF.out), (p18_ hF.out), (p19_ hF.out), (p20_ hF.out), (p21_ hF.out), (p22_ hF.out), (p23_ hF.out), (p24_ hF.out), (fun h => absurd ((p25_ hF.out) h 3 (by decide)) (by simp [hd])), (fun h => absurd ((p25_ hF.out) h 3 (by decide)) (by simp [hd]))⟩
    refine StepsF.cons (o := _) rfl (ws := [1, 3]) (by kernel_rfl) (by decide) (fun d s b w hF hd hw K hK => ?_) ?_
    · have hk : d 23 = false := by cases e : d 23 with | false => rfl | true => exact absurd ((p25_ hF.out) e 4 (by decide)) (by simp [hd])
      have hB : Below x1.heap.size x1 w := (p0_ hF.out) hk
      have e1 : s 17 = .string { data := #[101, 120, 112, 97, 110, 100, 32, 51, 50, 45, 98, 121, 116, 101, 32, 107] } := (p2_ hF.out) (hw 1 (by decide))
      have e3 : s 19 = .int .i64 8 := (p4_ hF.out) (hw 3 (by decide))
      dsimp only
      go_simp
      exact hK.out (ups (ups (ups s 17 (.string { data := #[101, 120, 112, 97, 110, 100, 32, 51, 50, 45, 98, 121, 116, 101, 32, 107] })) 19 (.int .i64 8)) 20 (.int .u8 50)) b _ ⟨(fun _ => hB), (p1_ hF.out), (fun _ => rfl), (p3_ hF.out), (fun _ => rfl), (fun _ => rfl), (p6_ hF.out), (p7_ hF.out), (p8_ hF.out), (p9_ hF.out), (p10_ hF.out), (p11_ hF.out), (p12_ hF.out), (p13_ hF.out), (p14_ hF.out), (p15_ hF.out), (p16_ hF.out), (p17_ hF.out), (p18_ hF.out), (p19_ hF.out), (p20_ hF.out), (p21_ hF.out), (p22_ hF.out), (p23_ hF.out), (p24_ hF.out), (fun h => absurd ((p25_ hF.out) h 4 (by decide)) (by simp [hd])), (fun h => absurd ((p25_ hF.out) h 4 (by decide)) (by simp [hd]))⟩
    refine StepsF.cons (o := _) rfl (ws := []) (by kernel_rfl) (by decide) (fun d s b w hF hd hw K hK => ?_) ?_
    · have hk : d 23 = false := by cases e : d 23 with | false => rfl | true => exact absurd ((p25_ hF.out) e 5 (by decide)) (by simp [hd])
      have hB : Below x1.heap.size x1 w := (p0_ hF.out) hk
      dsimp only
      go_simp
      exact hK.out (ups s 21 (.string { data := #[101, 120, 112, 97, 110, 100, 32, 51, 50, 45, 98, 121, 116, 101, 32, 107] })) b _ ⟨(fun _ => hB), (p1_ hF.out), (p2_ hF.out), (p3_ hF.out), (p4_ hF.out), (p5_ hF.out), (fun _ => rfl), (p7_ hF.out), (p8_ hF.out), (p9_ hF.out), (p10_ hF.out), (p11_ hF.out), (p12_ hF.out), (p13_ hF.out), (p14_ hF.out), (p15_ hF.out), (p16_ hF.out), (p17_ hF.out), (p18_ hF.out), (p19_ hF.out), (p20_ hF.out), (p21_ hF.out), (p22_ hF.out), (p23_ hF.out), (p24_ hF.out), (fun h => absurd ((p25_ hF.out) h 5 (by decide)) (by simp [hd])), (fun h => absurd ((p25_ hF.out) h 5 (by decide)) (by simp [hd]))⟩
    refine StepsF.cons (o := _) rfl (ws := []) (by kernel_rfl) (by decide) (fun d s b w hF hd hw K hK => ?_) ?_
    · have hk : d 23 = false := by cases e : d 23 with | false => rfl | true => exact absurd ((p25_ hF.out) e 6 (by decide)) (by simp [hd])
      have hB : Below x1.heap.size x1 w := (p0_ hF.out) hk
      dsimp only
      go_simp
      exact hK.out (ups s 22 (.int .i64 2)) b _ ⟨(fun _ => hB), (p1_ hF.out), (p2_ hF.out), (p3_ hF.out), (p4_ hF.out), (p5_ hF.out), (p6_ hF.out), (fun _ => rfl), (p8_ hF.out), (p9_ hF.out), (p10_ hF.out), (p11_ hF.out), (p12_ hF.out), (p13_ hF.out), (p14_ hF.out), (p15_ hF.out), (p16_ hF.out), (p17_ hF.out), (p18_ hF.out), (p19_ hF.out), (p20_ hF.out), (p21_ hF.out), (p22_ hF.out), (p23_ hF.out), (p24_ hF.out), (fun h => absurd ((p25_ hF.out) h 6 (by decide)) (by simp [hd])), (fun h => absurd ((p25_ hF.out) h 6 (by decide)) (by simp [hd]))⟩
    refine StepsF.cons (o := _) rfl (ws := [6]) (by kernel_rfl) (by decide) (fun d s b w hF hd hw K hK => ?_) ?_
    · have hk : d 23 = false := by cases e : d 23 with | false => rfl | true => exact absurd ((p25_ hF.out) e 7 (by decide)) (by simp [hd])
      have hB : Below x1.heap.size x1 w := (p0_ hF.out) hk
      have e6 : s 22 = .int .i64 2 := (p7_ hF.out) (hw 6 (by decide))
      dsimp only
      go_simp
      exact hK.out (ups (ups s 22 (.int .i64 2)) 23 (.int .i64 8)) b _ ⟨(fun _ => hB), (p1_ hF.out), (p2_ hF.out), (p3_ hF.out), (p4_ hF.out), (p5_ hF.out), (p6_ hF.out), (fun _ => rfl), (fun _ => rfl), (p9_ hF.out), (p10_ hF.out), (p11_ hF.out), (p12_ hF.out), (p13_ hF.out), (p14_ hF.out), (p15_ hF.out), (p16_ hF.out), (p17_ hF.out), (p18_ hF.out), (p19_ hF.out), (p20_ hF.out), (p21_ hF.out), (p22_ hF.out), (p23_ hF.out), (p24_ hF.out), (fun h => absurd ((p25_ hF.out) h 7 (by decide)) (by simp [hd])), (fun h => absurd ((p25_ hF.out) h 7 (by decide)) (by simp [hd]))⟩
    refine StepsF.cons (o := _) rfl (ws := [7]) (by kernel_rfl) (by decide) (fun d s b w hF hd hw K hK => ?_) ?_
    · have hk : d 23 = false := by cases e : d 23 with | false => rfl | true => exact absurd ((p25_ hF.out) e 8 (by decide)) (by simp [hd])
      have hB : Below x1.heap.size x1 w := (p0_ hF.out) hk
      have e7 : s 23 = .int .i64 8 := (p8_ hF.out) (hw 7 (by decide))
      dsimp only
      go_simp
      exact hK.out (ups (ups s 23 (.int .i64 8)) 24 (.int .i64 9)) b _ ⟨(fun _ => hB), (p1_ hF.out), (p2_ hF.out), (p3_ hF.out), (p4_ hF.out), (p5_ hF.out), (p6_ hF.out), (p7_ hF.out), (fun _ => rfl), (fun _ => rfl), (p10_ hF.out), (p11_ hF.out), (p12_ hF.out), (p13_ hF.out), (p14_ hF.out), (p15_ hF.out), (p16_ hF.out), (p17_ hF.out), (p18_ hF.out), (p19_ hF.out), (p20_ hF.out), (p21_ hF.out), (p22_ hF.out), (p23_ hF.out), (p24_ hF.out), (fun h => absurd ((p25_ hF.out) h 8 (by decide)) (by simp [hd])), (fun h => absurd ((p25_ hF.out) h 8 (by decide)) (by simp [hd]))⟩
    refine StepsF.cons (o := _) rfl (ws := [5, 8]) (by kernel_rfl) (by decide) (fun d s b w hF hd hw K hK => ?_) ?_
    · have hk : d 23 = false := by cases e : d 23 with | false => rfl | true => exact absurd ((p25_ hF.out) e 9 (by decide)) (by simp [hd])
      have hB : Below x1.heap.size x1 w := (p0_ hF.out) hk
      have e5 : s 21 = .string { data := #[101, 120, 112, 97, 110, 100, 32, 51, 50, 45, 98, 121, 116, 101, 32, 107] } := (p6_ hF.out) (hw 5 (by decide))
      have e8 : s 24 = .int .i64 9 := (p9_ hF.out) (hw 8 (by decide))
      dsimp only
      go_simp
      exact hK.out (ups (ups (ups s 21 (.string { data := #[101, 120, 112, 97, 110, 100, 32, 51, 50, 45, 98, 121, 116, 101, 32, 107] })) 24 (.int .i64 9)) 25 (.int .u8 45)) b _ ⟨(fun _ => hB), (p1_ hF.out), (p2_ hF.out), (p3_ hF.out), (p4_ hF.out), (p5_ hF.out), (fun _ => rfl), (p7_ hF.out), (p8_ hF.out), (fun _ => rfl), (fun _ => rfl), (p11_ hF.out), (p12_ hF.out), (p13_ hF.out), (p14_ hF.out), (p15_ hF.out), (p16_ hF.out), (p17_ hF.out), (p18_ hF.out), (p19_ hF.out), (p20_ hF.out), (p21_ hF.out), (p22_ hF.out), (p23_ hF.out), (p24_ hF.out), (fun h => absurd ((p25_ hF.out) h 9 (by decide)) (by simp [hd])), (fun h => absurd ((p25_ hF.out) h 9 (by decide)) (by simp [hd]))⟩
    refine StepsF.cons (o := _) rfl (ws := []) (by kernel_rfl) (by decide) (fun d s b w hF hd hw K hK => ?_) ?_
    · have hk : d 23 = false := by cases e : d 23 with | false => rfl | true => exact absurd ((p25_ hF.out) e 10 (by decide)) (by simp [hd])
      have hB : Below x1.heap.size x1 w := (p0_ hF.out) hk
      dsimp only
      go_simp
      exact hK.out (ups s 26 (.string { data := #[101, 120, 112, 97, 110, 100, 32, 51, 50, 45, 98, 121, 116, 101, 32, 107] })) b _ ⟨(fun _ => hB), (p1_ hF.out), (p2_ hF.out), (p3_ hF.out), (p4_ hF.out), (p5_ hF.out), (p6_ hF.out), (p7_ hF.out), (p8_ hF.out), (p9_ hF.out), (p10_ hF.out), (fun _ => rfl), (p12_ hF.out), (p13_ hF.out), (p14_ hF.out), (p15_ hF.out), (p16_ hF.out), (p17_ hF.out), (p18_ hF.out), (p19_ hF.out), (p20_ hF.out), (p21_ hF.out), (p22_ hF.out), (p23_ hF.out), (p24_ hF.out), (fun h => absurd ((p25_ hF.out) h 10 (by decide)) (by simp [hd])), (fun h => absurd ((p25_ hF.out) h 10 (by decide)) (by simp [hd]))⟩
    refine StepsF.cons (o := _) rfl (ws := []) (by kernel_rfl) (by decide) (fun d s b w hF hd hw K hK => ?_) ?_
    · have hk : d 23 = false := by cases e : d 23 with | false => rfl | true => exact absurd ((p25_ hF.out) e 11 (by decide)) (by simp [hd])
      have hB : Below x1.heap.size x1 w := (p0_ hF.out) hk
      dsimp only
      go_simp
      exact hK.out (ups s 27 (.int .i64 2)) b _ ⟨(fun _ => hB), (p1_ hF.out), (p2_ hF.out), (p3_ hF.out), (p4_ hF.out), (p5_ hF.out), (p6_ hF.out), (p7_ hF.out), (p8_ hF.out), (p9_ hF.out), (p10_ hF.out), (p11_ hF.out), (fun _ => rfl), (p13_ hF.out), (p14_ hF.out), (p15_ hF.out), (p16_ hF.out), (p17_ hF.out), (p18_ hF.out), (p19_ hF.out), (p20_ hF.out), (p21_ hF.out), (p22_ hF.out), (p23_ hF.out), (p24_ hF.out), (fun h => absurd ((p25_ hF.out) h 11 (by decide)) (by simp [hd])), (fun h => absurd ((p25_ hF.out) h 11 (by decide)) (by simp [hd]))⟩
    refine StepsF.cons (o := _) rfl (ws := [11]) (by kernel_rfl) (by decide) (fun d s b w hF hd hw K hK => ?_) ?_
    · have hk : d 23 = false := by cases e : d 23 with | false => rfl | true => exact absurd ((p25_ hF.out) e 12 (by decide)) (by simp [hd])
      have hB : Below x1.heap.size x1 w := (p0_ hF.out) hk
      have e11 : s 27 = .int .i64 2 := (p12_ hF.out) (hw 11 (by decide))
      dsimp only
      go_simp
      exact hK.out (ups (ups s 27 (.int .i64 2)) 28 (.int .i64 8)) b _ ⟨(fun _ => hB), (p1_ hF.out), (p2_ hF.out), (p3_ hF.out), (p4_ hF.out), (p5_ hF.out), (p6_ hF.out), (p7_ hF.out), (p8_ hF.out), (p9_ hF.out), (p10_ hF.out), (p11_ hF.out), (fun _ => rfl), (fun _ => rfl), (p14_ hF.out), (p15_ hF.out), (p16_ hF.out), (p17_ hF.out), (p18_ hF.out), (p19_ hF.out), (p20_ hF.out), (p21_ hF.out), (p22_ hF.out), (p23_ hF.out), (p24_ hF.out), (fun h => absurd ((p25_ hF.out) h 12 (by decide)) (by simp [hd])), (fun h => absurd ((p25_ hF.out) h 12 (by decide)) (by simp [hd]))⟩
    refine StepsF.cons (o := _) rfl (ws := [12]) (by kernel_rfl) (by decide) (fun d s b w hF hd hw K hK => ?_) ?_
    · have hk : d 23 = false := by cases e : d 23 with | false => rfl | true => exact absurd ((p25_ hF.out) e 13 (by decide)) (by simp [hd])
      have hB : Below x1.heap.size x1 w := (p0_ hF.out) hk
      have e12 : s 28 = .int .i64 8 := (p13_ hF.out) (hw 12 (by decide))
      dsimp only
      go_simp
      exact hK.out (ups (ups s 28 (.int .i64 8)) 29 (.int .i64 10)) b _ ⟨(fun _ => hB), (p1_ hF.out), (p2_ hF.out), (p3_ hF.out), (p4_ hF.out), (p5_ hF.out), (p6_ hF.out), (p7_ hF.out), (p8_ hF.out), (p9_ hF.out), (p10_ hF.out), (p11_ hF.out), (p12_ hF.out), (fun _ => rfl), (fun _ => rfl), (p15_ hF.out), (p16_ hF.out), (p17_ hF.out), (p18_ hF.out), (p19_ hF.out), (p20_ hF.out), (p21_ hF.out), (p22_ hF.out), (p23_ hF.out), (p24_ hF.out), (fun h => absurd ((p25_ hF.out) h 13 (by decide)) (by simp [hd])), (fun h => absurd ((p25_ hF.out) h 13 (by decide)) (by simp [hd]))⟩
    refine StepsF.cons (o := _) rfl (ws := [10, 13]) (by kernel_rfl) (by decide) (fun d s b w hF hd hw K hK => ?_) ?_
    · have hk : d 23 = false := by cases e : d 23 with | false => rfl | true => exact absurd ((p25_ hF.out) e 14 (by decide)) (by simp [hd])
      have hB : Below x1.heap.size x1 w := (p0_ hF.out) hk
      have e10 : s 26 = .string { data := #[101, 120, 112, 97, 110, 100, 32, 51, 50, 45, 98, 121, 116, 101, 32, 107] } := (p11_ hF.out) (hw 10 (by decide))
      have e13 : s 29 = .int .i64 10 := (p14_ hF.out) (hw 13 (by decide))
      dsimp only
      go_simp
      exact hK.out (ups (ups (ups s 26 (.string { data := #[101, 120, 112, 97, 110, 100, 32, 51, 50, 45, 98, 121, 116, 101, 32, 107] })) 29 (.int .i64 10)) 30 (.int .u8 98)) b _ ⟨(fun _ => hB), (p1_ hF.out), (p2_ hF.out), (p3_ hF.out), (p4_ hF.out), (p5_ hF.out), (p6_ hF.out), (p7_ hF.out), (p8_ hF.out), (p9_ hF.out), (p10_ hF.out), (fun _ => rfl), (p12_ hF.out), (p13_ hF.out), (fun _ => rfl), (fun _ => rfl), (p16_ hF.out), (p17_ hF.out), (p18_ hF.out), (p19_ hF.out), (p20_ hF.out), (p21_ hF.out), (p22_ hF.out), (p23_ hF.out), (p24_ hF.out), (fun h => absurd ((p25_ hF.out) h 14 (by decide)) (by simp [hd])), (fun h => absurd ((p25_ hF.out) h 14 (by decide)) (by simp [hd]))⟩
    refine StepsF.cons (o := _) rfl (ws := []) (by kernel_rfl) (by decide) (fun d s b w hF hd hw K hK => ?_) ?_
    · have hk : d 23 = false := by cases e : d 23 with | false => rfl | true => exact absurd ((p25_ hF.out) e 15 (by decide)) (by simp [hd])
      have hB : Below x1.heap.size x1 w := (p0_ hF.out) hk
      dsimp only
      go_simp
      exact hK.out (ups s 31 (.string { data := #[101, 120, 112, 97, 110, 100, 32, 51, 50, 45, 98, 121, 116, 101, 32, 107] })) b _ ⟨(fun _ => hB), (p1_ hF.out), (p2_ hF.out), (p3_ hF.out), (p4_ hF.out), (p5_ hF.out), (p6_ hF.out), (p7_ hF.out), (p8_ hF.out), (p9_ hF.out), (p10_ hF.out), (p11_ hF.out), (p12_ hF.out), (p13_ hF.out), (p14_ hF.out), (p15_ hF.out), (fun _ => rfl), (p17_ hF.out), (p18_ hF.out), (p19_ hF.out), (p20_ hF.out), (p21_ hF.out), (p22_ hF.out), (p23_ hF.out), (p24_ hF.out), (fun h => absurd ((p25_ hF.out) h 15 (by decide)) (by simp [hd])), (fun h => absurd ((p25_ hF.out) h 15 (by decide)) (by simp [hd]))⟩
    refine StepsF.cons (o := _) rfl (ws := []) (by kernel_rfl) (by decide) (fun d s b w hF hd hw K hK => ?_) ?_
    · have hk : d 23 = false := by cases e : d 23 with | false => rfl | true => exact absurd ((p25_ hF.out) e 16 (by decide)) (by simp [hd])
      have hB : Below x1.heap.size x1 w := (p0_ hF.out) hk
      dsimp only
      go_simp
      exact hK.out (ups s 32 (.int .i64 2)) b _ ⟨(fun _ => hB), (p1_ hF.out), (p2_ hF.out), (p3_ hF.out), (p4_ hF.out), (p5_ hF.out), (p6_ hF.out), (p7_ hF.out), (p8_ hF.out), (p9_ hF.out), (p10_ hF.out), (p11_ hF.out), (p12_ hF.out), (p13_ hF.out), (p14_ hF.out), (p15_ hF.out), (p16_ hF.out), (fun _ => rfl), (p18_ hF.out), (p19_ hF.out), (p20_ hF.out), (p21_ hF.out), (p22_ hF.out), (p23_ hF.out), (p24_ hF.out), (fun h => absurd ((p25_ hF.out) h 16 (by decide)) (by simp [hd])), (fun h => absurd ((p25_ hF.out) h 16 (by decide)) (by simp [hd]))⟩
    refine StepsF.cons (o := _) rfl (ws := [16]) (by kernel_rfl) (by decide) (fun d s b w hF hd hw K hK => ?_) ?_
    · have hk : d 23 = false := by cases e : d 23 with | false => rfl | true => exact absurd ((p25_ hF.out) e 17 (by decide)) (by simp [hd])
      have hB : Below x1.heap.size x1 w := (p0_ hF.out) hk
      have e16 : s 32 = .int .i64 2 := (p17_ hF.out) (hw 16 (by decide))
      dsimp only
      go_simp
      exact hK.out (ups (ups s 32 (.int .i64 2)) 33 (.int .i64 8)) b _ ⟨(fun _ => hB), (p1_ hF.out), (p2_ hF.out), (p3_ hF.out), (p4_ hF.out), (p5_ hF.out), (p6_ hF.out), (p7_ hF.out), (p8_ hF.out), (p9_ hF.out), (p10_ hF.out), (p11_ hF.out), (p12_ hF.out), (p13_ hF.out), (p14_ hF.out), (p15_ hF.out), (p16_ hF.out), (fun _ => rfl), (fun _ => rfl), (p19_ hF.out), (p20_ hF.out), (p21_ hF.out), (p22_ hF.out), (p23_ hF.out), (p24_ hF.out), (fun h => absurd ((p25_ hF.out) h 17 (by decide)) (by simp [hd])), (fun h => absurd ((p25_ hF.out) h 17 (by decide)) (by simp [hd]))⟩
    refine StepsF.cons (o := _) rfl (ws := [17]) (by kernel_rfl) (by decide) (fun d s b w hF hd hw K hK => ?_) ?_
    · have hk : d 23 = false := by cases e : d 23 with | false => rfl | true => exact absurd ((p25_ hF.out) e 18 (by decide)) (by simp [hd])
      have hB : Below x1.heap.size x1 w := (p0_ hF.out) hk
      have e17 : s 33 = .int .i64 8 := (p18_ hF.out) (hw 17 (by decide))
      dsimp only
      go_simp
      exact hK.out (ups (ups s 33 (.int .i64 8)) 34 (.int .i64 11)) b _ ⟨(fun _ => hB), (p1_ hF.out), (p2_ hF.out), (p3_ hF.out), (p4_ hF.out), (p5_ hF.out), (p6_ hF.out), (p7_ hF.out), (p8_ hF.out), (p9_ hF.out), (p10_ hF.out), (p11_ hF.out), (p12_ hF.out), (p13_ hF.out), (p14_ hF.out), (p15_ hF.out), (p16_ hF.out), (p17_ hF.out), (fun _ => rfl), (fun _ => rfl), (p20_ hF.out), (p21_ hF.out), (p22_ hF.out), (p23_ hF.out), (p24_ hF.out), (fun h => absurd ((p25_ hF.out) h 18 (by decide)) (by simp [hd])), (fun h => absurd ((p25_ hF.out) h 18 (by decide)) (by simp [hd]))⟩
    refine StepsF.cons (o := _) rfl (ws := [15, 18]) (by kernel_rfl) (by decide) (fun d s b w hF hd hw K hK => ?_) ?_
    · have hk : d 23 = false := by cases e : d 23 with | false => rfl | true => exact absurd ((p25_ hF.out) e 19 (by decide)) (by simp [hd])
      have hB : Below x1.heap.size x1 w := (p0_ hF.out) hk
      have e15 : s 31 = .string { data := #[101, 120, 112, 97, 110, 100, 32, 51, 50, 45, 98, 121, 116, 101, 32, 107] } := (p16_ hF.out) (hw 15 (by decide))
      have e18 : s 34 = .int .i64 11 := (p19_ hF.out) (hw 18 (by decide))
      dsimp only
      go_simp
      exact hK.out (ups (ups (ups s 31 (.string { data := #[101, 120, 112, 97, 110, 100, 32, 51, 50, 45, 98, 121, 116, 101, 32, 107] })) 34 (.int .i64 11)) 35 (.int .u8 121)) b _ ⟨(fun _ => hB), (p1_ hF.out), (p2_ hF.out), (p3_ hF.out), (p4_ hF.out), (p5_ hF.out), (p6_ hF.out), (p7_ hF.out), (p8_ hF.out), (p9_ hF.out), (p10_ hF.out), (p11_ hF.out), (p12_ hF.out), (p13_ hF.out), (p14_ hF.out), (p15_ hF.out), (fun _ => rfl), (p17_ hF.out), (p18_ hF.out), (fun _ => rfl), (fun _ => rfl), (p21_ hF.out), (p22_ hF.out), (p23_ hF.out), (p24_ hF.out), (fun h => absurd ((p25_ hF.out) h 19 (by decide)) (by simp [hd])), (fun h => absurd ((p25_ hF.out) h 19 (by decide)) (by simp [hd]))⟩
    refine StepsF.cons (o := _) rfl (ws := [4, 9, 14, 19]) (by kernel_rfl) (by decide) (fun d s b w hF hd hw K hK => ?_) ?_
    · have hk : d 23 = false := by cases e : d 23 with | false => rfl | true => exact absurd ((p25_ hF.out) e 20 (by decide)) (by simp [hd])
      have hB : Below x1.heap.size x1 w := (p0_ hF.out) hk
      have e4 : s 20 = .int .u8 50 := (p5_ hF.out) (hw 4 (by decide))
      have e9 : s 25 = .int .u8 45 := (p10_ hF.out) (hw 9 (by decide))
      have e14 : s 30 = .int .u8 98 := (p15_ hF.out) (hw 14 (by decide))
      have e19 : s 35 = .int .u8 121 := (p20_ hF.out) (hw 19 (by decide))
      dsimp only
      go_simp
      exact hK.out (ups (ups (ups (ups (ups s 20 (.int .u8 50)) 25 (.int .u8 45)) 30 (.int .u8 98)) 35 (.int .u8 121)) 36 (.slice (some ⟨w.heap.size, 0, none⟩) 4 4)) (ups b 20 w.heap.size) _ ⟨(fun _ => (hB.alloc hB.size _)), (p1_ hF.out), (p2_ hF.out), (p3_ hF.out), (p4_ hF.out), (fun _ => rfl), (p6_ hF.out), (p7_ hF.out), (p8_ hF.out), (p9_ hF.out), (fun _ => rfl), (p11_ hF.out), (p12_ hF.out), (p13_ hF.out), (p14_ hF.out), (fun _ => rfl), (p16_ hF.out), (p17_ hF.out), (p18_ hF.out), (p19_ hF.out), (fun _ => rfl), (fun _ => ⟨rfl, hB.size⟩), (fun _ _ => Own.newAt rfl), (p23_ hF.out), (p24_ hF.out), (fun h => absurd ((p25_ hF.out) h 20 (by decide)) (by simp [hd])), (fun h => absurd ((p25_ hF.out) h 20 (by decide)) (by simp [hd]))⟩
    refine StepsF.cons (o := _) rfl (ws := [20]) (by kernel_rfl) (by decide) (fun d s b w hF hd hw K hK => ?_) ?_
    · have hk : d 23 = false := by cases e : d 23 with | false => rfl | true => exact absurd ((p25_ hF.out) e 21 (by decide)) (by simp [hd])
      have hB : Below x1.heap.size x1 w := (p0_ hF.out) hk
      have e20 : s 36 = .slice (some ⟨(b 20), 0, none⟩) 4 4 := ((p21_ hF.out) (hw 20 (by decide))).1
      have le20 : x1.heap.size ≤ b 20 := ((p21_ hF.out) (hw 20 (by decide))).2
      dsimp only
      go_simp
      go_at_call 15
      refine (RNumber_new (b 20) 50 45 98 121 2036477234 (by unfold inB; decide) (by unfold inB; decide) (by unfold inB; decide) (by unfold inB; decide) (by decide) _ (((p22_ hF.out) (hw 20 (by decide))) hd)).mono ?_
      rintro e w1 ⟨rfl, hb⟩
      exact hK.out (ups (ups s 36 (.slice (some ⟨(b 20), 0, none⟩) 4 4)) 37 (.int .u32 2036477234)) b _ ⟨(fun _ => (Below.go hB hb)), (p1_ hF.out), (p2_ hF.out), (p3_ hF.out), (p4_ hF.out), (p5_ hF.out), (p6_ hF.out), (p7_ hF.out), (p8_ hF.out), (p9_ hF.out), (p10_ hF.out), (p11_ hF.out), (p12_ hF.out), (p13_ hF.out), (p14_ hF.out), (p15_ hF.out), (p16_ hF.out), (p17_ hF.out), (p18_ hF.out), (p19_ hF.out), (p20_ hF.out), (fun _ => ⟨rfl, le20⟩), (fun _ h => nomatch h), (fun _ => rfl), (p24_ hF.out), (fun h => absurd ((p25_ hF.out) h 21 (by decide)) (by simp [hd])), (fun h => absurd ((p25_ hF.out) h 21 (by decide)) (by simp [hd]))⟩
    refine StepsF.cons (o := _) rfl (ws := [0, 0, 1, 2, 3, 4, 5, 6, 7, 8, 9, 10, 11, 12, 13, 14, 15, 16, 17, 18, 19, 20, 21]) (by kernel_rfl) (by decide) (fun d s b w hF hd hw K hK => ?_) ?_
    · have hk : d 23 = false := by cases e : d 23 with | false => rfl | true => exact absurd ((p25_ hF.out) e 22 (by decide)) (by simp [hd])
      have hB : Below x1.heap.size x1 w := (p0_ hF.out) hk
      have e0 : s 16 = .int .i64 2 := (p1_ hF.out) (hw 0 (by decide))
      have e1 : s 17 = .string { data := #[101, 120, 112, 97, 110, 100, 32, 51, 50, 45, 98, 121, 116, 101, 32, 107] } := (p2_ hF.out) (hw 1 (by decide))
      have e2 : s 18 = .int .i64 2 := (p3_ hF.out) (hw 2 (by decide))
      have e3 : s 19 = .int .i64 8 := (p4_ hF.out) (hw 3 (by decide))
      have e4 : s 20 = .int .u8 50 := (p5_ hF.out) (hw 4 (by decide))
      have e5 : s 21 = .string { data := #[101, 120, 112, 97, 110, 100, 32, 51, 50, 45, 98, 121, 116, 101, 32, 107] } := (p6_ hF.out) (hw 5 (by decide))
      have e6 : s 22 = .int .i64 2 := (p7_ hF.out) (hw 6 (by decide))
      have e7 : s 23 = .int .i64 8 := (p8_ hF.out) (hw 7 (by decide))
      have e8 : s 24 = .int .i64 9 := (p9_ hF.out) (hw 8 (by decide))
      have e9 : s 25 = .int .u8 45 := (p10_ hF.out) (hw 9 (by decide))
      have e10 : s 26 = .string { data := #[101, 120, 112, 97, 110, 100, 32, 51, 50, 45, 98, 121, 116, 101, 32, 107] } := (p11_ hF.out) (hw 10 (by decide))
      have e11 : s 27 = .int .i64 2 := (p12_ hF.out) (hw 11 (by decide))
      have e12 : s 28 = .int .i64 8 := (p13_ hF.out) (hw 12 (by decide))
      have e13 : s 29 = .int .i64 10 := (p14_ hF.out) (hw 13 (by decide))
      have e14 : s 30 = .int .u8 98 := (p15_ hF.out) (hw 14 (by decide))
      have e15 : s 31 = .string { data := #[101, 120, 112, 97, 110, 100, 32, 51, 50, 45, 98, 121, 116, 101, 32, 107] } := (p16_ hF.out) (hw 15 (by decide))
      have e16 : s 32 = .int .i64 2 := (p17_ hF.out) (hw 16 (by decide))
      have e17 : s 33 = .int .i64 8 := (p18_ hF.out) (hw 17 (by decide))
      have e18 : s 34 = .int .i64 11 := (p19_ hF.out) (hw 18 (by decide))
      have e19 : s 35 = .int .u8 121 := (p20_ hF.out) (hw 19 (by decide))
      have e20 : s 36 = .slice (some ⟨(b 20), 0, none⟩) 4 4 := ((p21_ hF.out) (hw 20 (by decide))).1
      have le20 : x1.heap.size ≤ b 20 := ((p21_ hF.out) (hw 20 (by decide))).2
      have e21 : s 37 = .int .u32 2036477234 := (p23_ hF.out) (hw 21 (by decide))
      dsimp only
      go_simp
      exact hK.out (ups (ups (ups (ups (ups (ups (ups (ups (ups (ups (ups (ups (ups (ups (ups (ups (ups (ups (ups (ups (ups (ups (ups s 16 (.int .i64 2)) 17 (.string { data := #[101, 120, 112, 97, 110, 100, 32, 51, 50, 45, 98, 121, 116, 101, 32, 107] })) 18 (.int .i64 2)) 19 (.int .i64 8)) 20 (.int .u8 50)) 21 (.string { data := #[101, 120, 112, 97, 110, 100, 32, 51, 50, 45, 98, 121, 116, 101, 32, 107] })) 22 (.int .i64 2)) 23 (.int .i64 8)) 24 (.int .i64 9)) 25 (.int .u8 45)) 26 (.string { data := #[101, 120, 112, 97, 110, 100, 32, 51, 50, 45, 98, 121, 116, 101, 32, 107] })) 27 (.int .i64 2)) 28 (.int .i64 8)) 29 (.int .i64 10)) 30 (.int .u8 98)) 31 (.string { data := #[101, 120, 112, 97, 110, 100, 32, 51, 50, 45, 98, 121, 116, 101, 32, 107] })) 32 (.int .i64 2)) 33 (.int .i64 8)) 34 (.int .i64 11)) 35 (.int .u8 121)) 36 (.slice (some ⟨(b 20), 0, none⟩) 4 4)) 37 (.int .u32 2036477234)) 38 (.pointer (some ⟨S, 2, none⟩))) b _ ⟨(fun _ => hB), (fun _ => rfl), (fun _ => rfl), (fun _ => rfl), (fun _ => rfl), (fun _ => rfl), (fun _ => rfl), (fun _ => rfl), (fun _ => rfl), (fun _ => rfl), (fun _ => rfl), (fun _ => rfl), (fun _ => rfl), (fun _ => rfl), (fun _ => rfl), (fun _ => rfl), (fun _ => rfl), (fun _ => rfl), (fun _ => rfl), (fun _ => rfl), (fun _ => rfl), (fun _ => ⟨rfl, le20⟩), (p22_ hF.out), (fun _ => rfl), (fun _ => rfl), (fun h => absurd ((p25_ hF.out) h 22 (by decide)) (by simp [hd])), (fun h => absurd ((p25_ hF.out) h 22 (by decide)) (by simp [hd]))⟩
    refine StepsF.cons (o := _) rfl (ws := [22, 21, 21, 0, 1, 2, 3, 4, 5, 6, 7, 8, 9, 10, 11, 12, 13, 14, 15, 16, 17, 18, 19, 20, 21]) (by kernel_rfl) (by decide) (fun d s b w hF hd hw K hK => ?_) ?_
    · have hB : Below x1.heap.size x1 w := (p0_ hF.out) hd
      have e0 : s 16 = .int .i64 2 := (p1_ hF.out) (hw 0 (by decide))
      have e1 : s 17 = .string { data := #[101, 120, 112, 97, 110, 100, 32, 51, 50, 45, 98, 121, 116, 101, 32, 107] } := (p2_ hF.out) (hw 1 (by decide))
      have e2 : s 18 = .int .i64 2 := (p3_ hF.out) (hw 2 (by decide))
      have e3 : s 19 = .int .i64 8 := (p4_ hF.out) (hw 3 (by decide))
      have e4 : s 20 = .int .u8 50 := (p5_ hF.out) (hw 4 (by decide))
      have e5 : s 21 = .string { data := #[101, 120, 112, 97, 110, 100, 32, 51, 50, 45, 98, 121, 116, 101, 32, 107] } := (p6_ hF.out) (hw 5 (by decide))
      have e6 : s 22 = .int .i64 2 := (p7_ hF.out) (hw 6 (by decide))
      have e7 : s 23 = .int .i64 8 := (p8_ hF.out) (hw 7 (by decide))
      have e8 : s 24 = .int .i64 9 := (p9_ hF.out) (hw 8 (by decide))
      have e9 : s 25 = .int .u8 45 := (p10_ hF.out) (hw 9 (by decide))
      have e10 : s 26 = .string { data := #[101, 120, 112, 97, 110, 100, 32, 51, 50, 45, 98, 121, 116, 101, 32, 107] } := (p11_ hF.out) (hw 10 (by decide))
      have e11 : s 27 = .int .i64 2 := (p12_ hF.out) (hw 11 (by decide))
      have e12 : s 28 = .int .i64 8 := (p13_ hF.out) (hw 12 (by decide))
      have e13 : s 29 = .int .i64 10 := (p14_ hF.out) (hw 13 (by decide))
      have e14 : s 30 = .int .u8 98 := (p15_ hF.out) (hw 14 (by decide))
      have e15 : s 31 = .string { data := #[101, 120, 112, 97, 110, 100, 32, 51, 50, 45, 98, 121, 116, 101, 32, 107] } := (p16_ hF.out) (hw 15 (by decide))
      have e16 : s 32 = .int .i64 2 := (p17_ hF.out) (hw 16 (by decide))
      have e17 : s 33 = .int .i64 8 := (p18_ hF.out) (hw 17 (by decide))
      have e18 : s 34 = .int .i64 11 := (p19_ hF.out) (hw 18 (by decide))
      have e19 : s 35 = .int .u8 121 := (p20_ hF.out) (hw 19 (by decide))
      have e20 : s 36 = .slice (some ⟨(b 20), 0, none⟩) 4 4 := ((p21_ hF.out) (hw 20 (by decide))).1
      have le20 : x1.heap.size ≤ b 20 := ((p21_ hF.out) (hw 20 (by decide))).2
      have e21 : s 37 = .int .u32 2036477234 := (p23_ hF.out) (hw 21 (by decide))
      have e22 : s 38 = .pointer (some ⟨S, 2, none⟩) := (p24_ hF.out) (hw 22 (by decide))
      dsimp only
      have oX := HS.out.later hB
      have fr2 := oX.ok 2 (by simp)
      have ce2 := oX.at 2 _ rfl
      clear oX
      go_simp
      exact hK.out (ups (ups (ups (ups (ups (ups (ups (ups (ups (ups (ups (ups (ups (ups (ups (ups (ups (ups (ups (ups (ups (ups (ups s 16 (.int .i64 2)) 17 (.string { data := #[101, 120, 112, 97, 110, 100, 32, 51, 50, 45, 98, 121, 116, 101, 32, 107] })) 18 (.int .i64 2)) 19 (.int .i64 8)) 20 (.int .u8 50)) 21 (.string { data := #[101, 120, 112, 97, 110, 100, 32, 51, 50, 45, 98, 121, 116, 101, 32, 107] })) 22 (.int .i64 2)) 23 (.int .i64 8)) 24 (.int .i64 9)) 25 (.int .u8 45)) 26 (.string { data := #[101, 120, 112, 97, 110, 100, 32, 51, 50, 45, 98, 121, 116, 101, 32, 107] })) 27 (.int .i64 2)) 28 (.int .i64 8)) 29 (.int .i64 10)) 30 (.int .u8 98)) 31 (.string { data := #[101, 120, 112, 97, 110, 100, 32, 51, 50, 45, 98, 121, 116, 101, 32, 107] })) 32 (.int .i64 2)) 33 (.int .i64 8)) 34 (.int .i64 11)) 35 (.int .u8 121)) 36 (.slice (some ⟨(b 20), 0, none⟩) 4 4)) 37 (.int .u32 2036477234)) 38 (.pointer (some ⟨S, 2, none⟩))) b _ ⟨(fun h => nomatch h), (fun _ => rfl), (fun _ => rfl), (fun _ => rfl), (fun _ => rfl), (fun _ => rfl), (fun _ => rfl), (fun _ => rfl), (fun _ => rfl), (fun _ => rfl), (fun _ => rfl), (fun _ => rfl), (fun _ => rfl), (fun _ => rfl), (fun _ => rfl), (fun _ => rfl), (fun _ => rfl), (fun _ => rfl), (fun _ => rfl), (fun _ => rfl), (fun _ => rfl), (fun _ => ⟨rfl, le20⟩), (fun _ h => absurd (hw 21 (by simp)) (by have h2 : d 21 = false := h; simp [h2])), (fun _ => rfl), (fun _ => rfl), (fun _ j hj => by have hj2 := hw j (by simp; omega); simp [upd, hj2]), (fun _ => ⟨w, hB, rfl⟩)⟩
    exact StepsF.nil
  intro d s b y2 hF hall
  replace hF := Lib.hid hF
  obtain ⟨y2, hB, rfl⟩ := (q26_ hF.out) (hall 23 (by decide))
  try dsimp only
  have e0 : s 16 = .int .i64 2 := (p1_ hF.out) (hall 0 (by decide))
  have e1 : s 17 = .string { data := #[101, 120, 112, 97, 110, 100, 32, 51, 50, 45, 98, 121, 116, 101, 32, 107] } := (p2_ hF.out) (hall 1 (by decide))
  have e2 : s 18 = .int .i64 2 := (p3_ hF.out) (hall 2 (by decide))
  have e3 : s 19 = .int .i64 8 := (p4_ hF.out) (hall 3 (by decide))
  have e4 : s 20 = .int .u8 50 := (p5_ hF.out) (hall 4 (by decide))
  have e5 : s 21 = .string { data := #[101, 120, 112, 97, 110, 100, 32, 51, 50, 45, 98, 121, 116, 101, 32, 107] } := (p6_ hF.out) (hall 5 (by decide))
  have e6 : s 22 = .int .i64 2 := (p7_ hF.out) (hall 6 (by decide))
  have e7 : s 23 = .int .i64 8 := (p8_ hF.out) (hall 7 (by decide))
  have e8 : s 24 = .int .i64 9 := (p9_ hF.out) (hall 8 (by decide))
  have e9 : s 25 = .int .u8 45 := (p10_ hF.out) (hall 9 (by decide))
  have e10 : s 26 = .string { data := #[101, 120, 112, 97, 110, 100, 32, 51, 50, 45, 98, 121, 116, 101, 32, 107] } := (p11_ hF.out) (hall 10 (by decide))
  have e11 : s 27 = .int .i64 2 := (p12_ hF.out) (hall 11 (by decide))
  have e12 : s 28 = .int .i64 8 := (p13_ hF.out) (hall 12 (by decide))
  have e13 : s 29 = .int .i64 10 := (p14_ hF.out) (hall 13 (by decide))
  have e14 : s 30 = .int .u8 98 := (p15_ hF.out) (hall 14 (by decide))
  have e15 : s 31 = .string { data := #[101, 120, 112, 97, 110, 100, 32, 51, 50, 45, 98, 121, 116, 101, 32, 107] } := (p16_ hF.out) (hall 15 (by decide))
  have e16 : s 32 = .int .i64 2 := (p17_ hF.out) (hall 16 (by decide))
  have e17 : s 33 = .int .i64 8 := (p18_ hF.out) (hall 17 (by decide))
  have e18 : s 34 = .int .i64 11 := (p19_ hF.out) (hall 18 (by decide))
  have e19 : s 35 = .int .u8 121 := (p20_ hF.out) (hall 19 (by decide))
  have e20 : s 36 = .slice (some ⟨(b 20), 0, none⟩) 4 4 := ((p21_ hF.out) (hall 20 (by decide))).1
  have le20 : x1.heap.size ≤ b 20 := ((p21_ hF.out) (hall 20 (by decide))).2
  have e21 : s 37 = .int .u32 2036477234 := (p23_ hF.out) (hall 21 (by decide))
  have e22 : s 38 = .pointer (some ⟨S, 2, none⟩) := (p24_ hF.out) (hall 22 (by decide))
  rw [e0, e1, e2, e3, e4, e5, e6, e7, e8, e9, e10, e11, e12, e13, e14, e15, e16, e17, e18, e19, e20, e21, e22]
  clear hall hF e0 e1 e2 e3 e4 e5 e6 e7 e8 e9 e10 e11 e12 e13 e14 e15 e16 e17 e18 e19 e20 e21 e22
  obtain ⟨B, hz⟩ : ∃ x, x = b 20 := ⟨_, rfl⟩
  rw [← hz] at le20 ⊢
  clear hz
  clear d s b
  have HSk := Lib.hid (HS.out.later hB)
  have HKk := Lib.hid (HK.out.later hB)
  have HMk := Lib.hid (HM.out.later hB)
  have HRk := Lib.hid (HR.out.later hB)
  clear HS HK HM HR
  have HS := HSk
  clear HSk
  have HK := HKk
  clear HKk
  have HM := HMk
  clear HMk
  have HR := HRk
  clear HRk
  have hB1 := Below.go hB0 hB
  clear hB0 hB
  have hB0 := hB1
  clear hB1
  have HSn : Hid (Own S ([.int .u32 1634760805, .int .u32 857760878, .int .u32 2036477234, .int .u32 0, .int .u32 0, .int .u32 0, .int .u32 0, .int .u32 0, .int .u32 0, .int .u32 0, .int .u32 0, .int .u32 0, .int .u32 0, .int .u32 0, .int .u32 0, .int .u32 0]) (y2.setCells S 2 [.int .u32 2036477234])) := Lib.hid (show Own S (over _ 2 [.int .u32 2036477234]) _ from Own.part HS.out (by simp))
  have HKn : Hid (Own K (nums .u8 kf 32) (y2.setCells S 2 [.int .u32 2036477234])) := Lib.hid (Own.far (o := 2) (vs := [.int .u32 2036477234]) HK.out nKS)
  have HMn : Hid (Own M (nums .u8 nf 12) (y2.setCells S 2 [.int .u32 2036477234])) := Lib.hid (Own.far (o := 2) (vs := [.int .u32 2036477234]) HM.out nMS)
  have HRn : Hid (Own R ([.int .u32 0, .int .u32 0, .int .u32 0, .int .u32 0, .int .u32 0, .int .u32 0, .int .u32 0, .int .u32 0, .int .u32 0, .int .u32 0, .int .u32 0, .int .u32 0, .int .u32 0, .int .u32 0, .int .u32 0, .int .u32 0]) (y2.setCells S 2 [.int .u32 2036477234])) := Lib.hid (Own.far (o := 2) (vs := [.int .u32 2036477234]) HR.out nRS)
  have hB0n : Below w.heap.size w (y2.setCells S 2 [.int .u32 2036477234]) := Below.setCells hB0 Sw [.int .u32 2036477234] 2
  clear HS HK HM HR hB0
  generalize (y2.setCells S 2 [.int .u32 2036477234]) = x2 at *
  have HS := HSn
  clear HSn
  have HK := HKn
  clear HKn
  have HM := HMn
  clear HMn
  have HR := HRn
  clear HRn
  have hB0 := hB0n
  clear hB0n
  go_wp2_with (fail)
  rw [rounds_succ]
  go_wp2_with (fail)
  refine wp_region_fun 24 (by kernel_rfl) (by kernel_rfl) rfl (fun s b => ⟨#[(.agg (nums .u8 kf 32).toArray), .int .u32 c, (.agg (nums .u8 nf 12).toArray), .pointer (some ⟨K, 0, none⟩), undef, .pointer (some ⟨M, 0, none⟩), .pointer (some ⟨R, 0, none⟩), .pointer (some ⟨S, 0, none⟩), .string { data := #[101, 120, 112, 97, 110, 100, 32, 51, 50, 45, 98, 121, 116, 101, 32, 107] }, .int .i64 3, undef, undef, .int .i64 3, .bool true, .int .i64 2, .int .i64 3, s 16, s 17, s 18, s 19, s 20, s 21, s 22, s 23, s 24, s 25, s 26, s 27, s 28, s 29, s 30, s 31, s 32, s 33, s 34, s 35, s 36, s 37, s 38, undef, undef, undef, undef, undef, undef, undef, undef, undef, undef, undef, undef, undef, undef, undef, undef, undef, undef, undef, undef, undef, undef, undef, undef, undef, undef, undef, undef, undef, undef, undef], []⟩) (fun d s b w => (d 23 = false → Below x2.heap.size x2 w) ∧ (d 0 = true → s 16 = .int .i64 3) ∧ (d 1 = true → s 17 = .string { data := #[101, 120, 112, 97, 110, 100, 32, 51, 50, 45, 98, 121, 116, 101, 32, 107] }) ∧ (d 2 = true → s 18 = .int .i64 3) ∧ (d 3 = true → s 19 = .int .i64 12) ∧ (d 4 = true → s 20 = .int .u8 116) ∧ (d 5 = true → s 21 = .string { data := #[101, 120, 112, 97, 110, 100, 32, 51, 50, 45, 98, 121, 116, 101, 32, 107] }) ∧ (d 6 = true → s 22 = .int .i64 3) ∧ (d 7 = true → s 23 = .int .i64 12) ∧ (d 8 = true → s 24 = .int .i64 13) ∧ (d 9 = true → s 25 = .int .u8 101) ∧ (d 10 = true → s 26 = .string { data := #[101, 120, 112, 97, 110, 100, 32, 51, 50, 45, 98, 121, 116, 101, 32, 107] }) ∧ (d 11 = true → s 27 = .int .i64 3) ∧ (d 12 = true → s 28 = .int .i64 12) ∧ (d 13 = true → s 29 = .int .i64 14) ∧ (d 14 = true → s 30 = .int .u8 32) ∧ (d 15 = true → s 31 = .string { data := #[101, 120, 112, 97, 110, 100, 32, 51, 50, 45, 98, 121, 116, 101, 32, 107] }) ∧ (d 16 = true → s 32 = .int .i64 3) ∧ (d 17 = true → s 33 = .int .i64 12) ∧ (d 18 = true → s 34 = .int .i64 15) ∧ (d 19 = true → s 35 = .int .u8 107) ∧ (d 20 = true → s 36 = .slice (some ⟨(b 20), 0, none⟩) 4 4 ∧ x2.heap.size ≤ b 20) ∧ (d 20 = true → d 21 = false → Own (b 20) [.int .u8 116, .int .u8 101, .int .u8 32, .int .u8 107] w) ∧ (d 21 = true → s 37 = .int .u32 1797285236) ∧ (d 22 = true → s 38 = .pointer (some ⟨S, 3, none⟩)) ∧ (d 23 = true → ∀ j, j < 23 → d j = true) ∧ (d 23 = true → ∃ w2, Below x2.heap.size x2 w2 ∧ w = w2.setCells S 3 [.int .u32 1797285236])) rfl ?h0y3 (?sty3 : StepsF _ _ _ _ 24 _ _ [0, 1, 2, 3, 4, 5, 6, 7, 8, 9, 10, 11, 12, 13, 14, 15, 16, 17, 18, 19, 20, 21, 22, 23]) ?dny3
  case h0y3 => exact ⟨fun _ => Below.drew (Below.refl _ _), (fun h => nomatch h), (fun h => nomatch h), (fun h => nomatch h), (fun h => nomatch h), (fun h => nomatch h), (fun h => nomatch h), (fun h => nomatch h), (fun h => nomatch h), (fun h => nomatch h), (fun h => nomatch h), (fun h => nomatch h), (fun h => nomatch h), (fun h => nomatch h), (fun h => nomatch h), (fun h => nomatch h), (fun h => nomatch h), (fun h => nomatch h), (fun h => nomatch h), (fun h => nomatch h), (fun h => nomatch h), (fun h => nomatch h), (fun h => nomatch h), (fun h => nomatch h), (fun h => nomatch h), (fun h => nomatch h), (fun h => nomatch h)⟩
  case sty3 =>
    refine StepsF.cons (o := _) rfl (ws := []) (by kernel_rfl) (by decide) (fun d s b w hF hd hw K hK => ?_) ?_
    · have hk : d 23 = false := by cases e : d 23 with | false => rfl | true => exact absurd ((p25_ hF.out) e 0 (by decide)) (by simp [hd])
      have hB : Below x2.heap.size x2 w := (p0_ hF.out) hk
      dsimp only
      go_simp
      exact hK.out (ups s 16 (.int .i64 3)) b _ ⟨(fun _ => hB), (fun _ => rfl), (p2_ hF.out), (p3_ hF.out), (p4_ hF.out), (p5_ hF.out), (p6_ hF.out), (p7_ hF.out), (p8_ hF.out), (p9_ hF.out), (p10_ hF.out), (p11_ hF.out), (p12_ hF.out), (p13_ hF.out), (p14_ hF.out), (p15_ hF.out), (p16_ hF.out), (p17_ hF.out), (p18_ hF.out), (p19_ hF.out), (p20_ hF.out), (p21_ hF.out), (p22_ hF.out), (p23_ hF.out), (p24_ hF.out), (fun h => absurd ((p25_ hF.out) h 0 (by decide)) (by simp [hd])), (fun h => absurd ((p25_ hF.out) h 0 (by decide)) (by simp [hd]))⟩
    refine StepsF.cons (o := _) rfl (ws := []) (by kernel_rfl) (by decide) (fun d s b w hF hd hw K hK => ?_) ?_
    · have hk : d 23 = false := by cases e : d 23 with | false => rfl | true => exact absurd ((p25_ hF.out) e 1 (by decide)) (by simp [hd])
      have hB : Below x2.heap.size x2 w := (p0_ hF.out) hk
      dsimp only
      go_simp
      exact hK.out (ups s 17 (.string { data := #[101, 120, 112, 97, 110, 100, 32, 51, 50, 45, 98, 121, 116, 101, 32, 107] })) b _ ⟨(fun _ => hB), (p1_ hF.out), (fun _ => rfl), (p3_ hF.out), (p4_ hF.out), (p5_ hF.out), (p6_ hF.out), (p7_ hF.out), (p8_ hF.out), (p9_ hF.out), (p10_ hF.out), (p11_ hF.out), (p12_ hF.out), (p13_ hF.out), (p14_ hF.out), (p15_ hF.out), (p16_ hF.out), (p17_ hF.out), (p18_ hF.out), (p19_ hF.out), (p20_ hF.out), (p21_ hF.out), (p22_ hF.out), (p23_ hF.out), (p24_ hF.out), (fun h => absurd ((p25_ hF.out) h 1 (by decide)) (by simp [hd])), (fun h => absurd ((p25_ hF.out) h 1 (by decide)) (by simp [hd]))⟩
    refine StepsF.cons (o := _) rfl (ws := []) (by kernel_rfl) (by decide) (fun d s b w hF hd hw K hK => ?_) ?_
    · have hk : d 23 = false := by cases e : d 23 with | false => rfl | true => exact absurd ((p25_ hF.out) e 2 (by decide)) (by simp [hd])
      have hB : Below x2.heap.size x2 w := (p0_ hF.out) hk
      dsimp only
      go_simp
      exact hK.out (ups s 18 (.int .i64 3)) b _ ⟨(fun _ => hB), (p1_ hF.out), (p2_ hF.out), (fun _ => rfl), (p4_ hF.out), (p5_ hF.out), (p6_ hF.out), (p7_ hF.out), (p8_ hF.out), (p9_ hF.out), (p10_ hF.out), (p11_ hF.out), (p12_ hF.out), (p13_ hF.out), (p14_ hF.out), (p15_ hF.out), (p16_ hF.out), (p17_ hF.out), (p18_ hF.out), (p19_ hF.out), (p20_ hF.out), (p21_ hF.out), (p22_ hF.out), (p23_ hF.out), (p24_ hF.out), (fun h => absurd ((p25_ hF.out) h 2 (by decide)) (by simp [hd])), (fun h => absurd ((p25_ hF.out) h 2 (by decide)) (by simp [hd]))⟩
    refine StepsF.cons (o := _) rfl (ws := [2]) (by kernel_rfl) (by decide) (fun d s b w hF hd hw K hK => ?_) ?_
    · have hk : d 23 = false := by cases e : d 23 with | false => rfl | true => exact absurd ((p25_ hF.out) e 3 (by decide)) (by simp [hd])
      have hB : Below x2.heap.size x2 w := (p0_ hF.out) hk
      have e2 : s 18 = .int .i64 3 := (p3_ hF.out) (hw 2 (by decide))
      dsimp only
      go_simp
      exact hK.out (ups (ups s 18 (.int .i64 3)) 19 (.int .i64 12)) b _ ⟨(fun _ => hB), (p1_ hF.out), (p2_ hF.out), (fun _ => rfl), (fun _ => rfl), (p5_ hF.out), (p6_ hF.out), (p7_ hF.out), (p8_ hF.out), (p9_ hF.out), (p10_ hF.out), (p11_ hF.out), (p12_ hF.out), (p13_ hF.out), (p14_ hF.out), (p15_ hF.out), (p16_ hF.out), (p17_ hF.out), (p18_ hF.out), (p19_ hF.out), (p20_ hF.out), (p21_ hF.out), (p22_ hF.out), (p23_ hF.out), (p24_ hF.out), (fun h => absurd ((p25_ hF.out) h 3 (by decide)) (by simp [hd])), (fun h => absurd ((p25_ hF.out) h 3 (by decide)) (by simp [hd]))⟩
    refine StepsF.cons (o := _) rfl (ws := [1, 3]) (by kernel_rfl) (by decide) (fun d s b w hF hd hw K hK => ?_) ?_
    · have hk : d 23 = false := by cases e : d 23 with | false => rfl | true => exact absurd ((p25_ hF.out) e 4 (by decide)) (by simp [hd])
      have hB : Below x2.heap.size x2 w := (p0_ hF.out) hk
      have e1 : s 17 = .string { data := #[101, 120, 112, 97, 110, 100, 32, 51, 50, 45, 98, 121, 116, 101, 32, 107] } := (p2_ hF.out) (hw 1 (by decide))
      have e3 : s 19 = .int .i64 12 := (p4_ hF.out) (hw 3 (by decide))
      dsimp only
      go_simp
      exact hK.out (ups (ups (ups s 17 (.string { data := #[101, 120, 112, 97, 110, 100, 32, 51, 50, 45, 98, 121, 116, 101, 32, 107] })) 19 (.int .i64 12)) 20 (.int .u8 116)) b _ ⟨(fun _ => hB), (p1_ hF.out), (fun _ => rfl), (p3_ hF.out), (fun _ => rfl), (fun _ => rfl), (p6_ hF.out), (p7_ hF.out), (p8_ hF.out), (p9_ hF.out), (p10_ hF.out), (p11_ hF.out), (p12_ hF.out), (p13_ hF.out), (p14_ hF.out), (p15_ hF.out), (p16_ hF.out), (p17_ hF.out), (p18_ hF.out), (p19_ hF.out), (p20_ hF.out), (p21_ hF.out), (p22_ hF.out), (p23_ hF.out), (p24_ hF.out), (fun h => absurd ((p25_ hF.out) h 4 (by decide)) (by simp [hd])), (fun h => absurd ((p25_ hF.out) h 4 (by decide)) (by simp [hd]))⟩
    refine StepsF.cons (o := _) rfl (ws := []) (by kernel_rfl) (by decide) (fun d s b w hF hd hw K hK => ?_) ?_
    · have hk : d 23 = false := by cases e : d 23 with | false => rfl | true => exact absurd ((p25_ hF.out) e 5 (by decide)) (by simp [hd])
      have hB : Below x2.heap.size x2 w := (p0_ hF.out) hk
      dsimp only
      go_simp
      exact hK.out (ups s 21 (.string { data := #[101, 120, 112, 97, 110, 100, 32, 51, 50, 45, 98, 121, 116, 101, 32, 107] })) b _ ⟨(fun _ => hB), (p1_ hF.out), (p2_ hF.out), (p3_ hF.out), (p4_ hF.out), (p5_ hF.out), (fun _ => rfl), (p7_ hF.out), (p8_ hF.out), (p9_ hF.out), (p10_ hF.out), (p11_ hF.out), (p12_ hF.out), (p13_ hF.out), (p14_ hF.out), (p15_ hF.out), (p16_ hF.out), (p17_ hF.out), (p18_ hF.out), (p19_ hF.out), (p20_ hF.out), (p21_ hF.out), (p22_ hF.out), (p23_ hF.out), (p24_ hF.out), (fun h => absurd ((p25_ hF.out) h 5 (by decide)) (by simp [hd])), (fun h => absurd ((p25_ hF.out) h 5 (by decide)) (by simp [hd]))⟩
    refine StepsF.cons (o := _) rfl (ws := []) (by kernel_rfl) (by decide) (fun d s b w hF hd hw K hK => ?_) ?_
    · have hk : d 23 = false := by cases e : d 23 with | false => rfl | true => exact absurd ((p25_ hF.out) e 6 (by decide)) (by simp [hd])
      have hB : Below x2.heap.size x2 w := (p0_ hF.out) hk
      dsimp only
      go_simp
      exact hK.out (ups s 22 (.int .i64 3)) b _ ⟨(fun _ => hB), (p1_ hF.out), (p2_ hF.out), (p3_ hF.out), (p4_ hF.out), (p5_ hF.out), (p6_ hF.out), (fun _ => rfl), (p8_ hF.out), (p9_ hF.out), (p10_ hF.out), (p11_ hF.out), (p12_ hF.out), (p13_ hF.out), (p14_ hF.out), (p15_ hF.out), (p16_ hF.out), (p17_ hF.out), (p18_ hF.out), (p19_ hF.out), (p20_ hF.out), (p21_ hF.out), (p22_ hF.out), (p23_ hF.out), (p24_ hF.out), (fun h => absurd ((p25_ hF.out) h 6 (by decide)) (by simp [hd])), (fun h => absurd ((p25_ hF.out) h 6 (by decide)) (by simp [hd]))⟩
    refine StepsF.cons (o := _) rfl (ws := [6]) (by kernel_rfl) (by decide) (fun d s b w hF hd hw K hK => ?_) ?_
    · have hk : d 23 = false := by cases e : d 23 with | false => rfl | true => exact absurd ((p25_ hF.out) e 7 (by decide)) (by simp [hd])
      have hB : Below x2.heap.size x2 w := (p0_ hF.out) hk
      have e6 : s 22 = .int .i64 3 := (p7_ hF.out) (hw 6 (by decide))
      dsimp only
      go_simp
      exact hK.out (ups (ups s 22 (.int .i64 3)) 23 (.int .i64 12)) b _ ⟨(fun _ => hB), (p1_ hF.out), (p2_ hF.out), (p3_ hF.out), (p4_ hF.out), (p5_ hF.out), (p6_ hF.out), (fun _ => rfl), (fun _ => rfl), (p9_ hF.out), (p10_ hF.out), (p11_ hF.out), (p12_ hF.out), (p13_ hF.out), (p14_ hF.out), (p15_ hF.out), (p16_ hF.out), (p17_ hF.out), (p18_ hF.out), (p19_ hF.out), (p20_ hF.out), (p21_ hF.out), (p22_ hF.out), (p23_ hF.out), (p24_ hF.out), (fun h => absurd ((p25_ hF.out) h 7 (by decide)) (by simp [hd])), (fun h => absurd ((p25_ hF.out) h 7 (by decide)) (by simp [hd]))⟩
    refine StepsF.cons (o := _) rfl (ws := [7]) (by kernel_rfl) (by decide) (fun d s b w hF hd hw K hK => ?_) ?_
    · have hk : d 23 = false := by cases e : d 23 with | false => rfl | true => exact absurd ((p25_ hF.out) e 8 (by decide)) (by simp [hd])
      have hB : Below x2.heap.size x2 w := (p0_ hF.out) hk
      have e7 : s 23 = .int .i64 12 := (p8_ hF.out) (hw 7 (by decide))
      dsimp only
      go_simp
      exact hK.out (ups (ups s 23 (.int .i64 12)) 24 (.int .i64 13)) b _ ⟨(fun _ => hB), (p1_ hF.out), (p2_ hF.out), (p3_ hF.out), (p4_ hF.out), (p5_ hF.out), (p6_ hF.out), (p7_ hF.out), (fun _ => rfl), (fun _ => rfl), (p10_ hF.out), (p11_ hF.out), (p12_ hF.out), (p13_ hF.out), (p14_ hF.out), (p15_ hF.out), (p16_ hF.out), (p17_ hF.out), (p18_ hF.out), (p19_ hF.out), (p20_ hF.out), (p21_ hF.out), (p22_ hF.out), (p23_ hF.out), (p24_ hF.out), (fun h => absurd ((p25_ hF.out) h 8 (by decide)) (by simp [hd])), (fun h => absurd ((p25_ hF.out) h 8 (by decide)) (by simp [hd]))⟩
    refine StepsF.cons (o := _) rfl (ws := [5, 8]) (by kernel_rfl) (by decide) (fun d s b w hF hd hw K hK => ?_) ?_
    · have hk : d 23 = false := by cases e : d 23 with | false => rfl | true => exact absurd ((p25_ hF.out) e 9 (by decide)) (by simp [hd])
      have hB : Below x2.heap.size x2 w := (p0_ hF.out) hk
      have e5 : s 21 = .string { data := #[101, 120, 112, 97, 110, 100, 32, 51, 50, 45, 98, 121, 116, 101, 32, 107] } := (p6_ hF.out) (hw 5 (by decide))
      have e8 : s 24 = .int .i64 13 := (p9_ hF.out) (hw 8 (by decide))
      dsimp only
      go_simp
      exact hK.out (ups (ups (ups s 21 (.string { data := #[101, 120, 112, 97, 110, 100, 32, 51, 50, 45, 98, 121, 116, 101, 32, 107] })) 24 (.int .i64 13)) 25 (.int .u8 101)) b _ ⟨(fun _ => hB), (p1_ hF.out), (p2_ hF.out), (p3_ hF.out), (p4_ hF.out), (p5_ hF.out), (fun _ => rfl), (p7_ hF.out), (p8_ hF.out), (fun _ => rfl), (fun _ => rfl), (p11_ hF.out), (p12_ hF.out), (p13_ hF.out), (p14_ hF.out), (p15_ hF.out), (p16_ hF.out), (p17_ hF.out), (p18_ hF.out), (p19_ hF.out), (p20_ hF.out), (p21_ hF.out), (p22_ hF.out), (p23_ hF.out), (p24_ hF.out), (fun h => absurd ((p25_ hF.out) h 9 (by decide)) (by simp [hd])), (fun h => absurd ((p25_ hF.out) h 9 (by decide)) (by simp [hd]))⟩
    refine StepsF.cons (o := _) rfl (ws := []) (by kernel_rfl) (by decide) (fun d s b w hF hd hw K hK => ?_) ?_
    · have hk : d 23 = false := by cases e : d 23 with | false => rfl | true => exact absurd ((p25_ hF.out) e 10 (by decide)) (by simp [hd])
      have hB : Below x2.heap.size x2 w := (p0_ hF.out) hk
      dsimp only
      go_simp
      exact hK.out (ups s 26 (.string { data := #[101, 120, 112, 97, 110, 100, 32, 51, 50, 45, 98, 121, 116, 101, 32, 107] })) b _ ⟨(fun _ => hB), (p1_ hF.out), (p2_ hF.out), (p3_ hF.out), (p4_ hF.out), (p5_ hF.out), (p6_ hF.out), (p7_ hF.out), (p8_ hF.out), (p9_ hF.out), (p10_ hF.out), (fun _ => rfl), (p12_ hF.out), (p13_ hF.out), (p14_ hF.out), (p15_ hF.out), (p16_ hF.out), (p17_ hF.out), (p18_ hF.out), (p19_ hF.out), (p20_ hF.out), (p21_ hF.out), (p22_ hF.out), (p23_ hF.out), (p24_ hF.out), (fun h => absurd ((p25_ hF.out) h 10 (by decide)) (by simp [hd])), (fun h => absurd ((p25_ hF.out) h 10 (by decide)) (by simp [hd]))⟩
    refine StepsF.cons (o := _) rfl (ws := []) (by kernel_rfl) (by decide) (fun d s b w hF hd hw K hK => ?_) ?_
    · have hk : d 23 = false := by cases e : d 23 with | false => rfl | true => exact absurd ((p25_ hF.out) e 11 (by decide)) (by simp [hd])
      have hB : Below x2.heap.size x2 w := (p0_ hF.out) hk
      dsimp only
      go_simp
      exact hK.out (ups s 27 (.int .i64 3)) b _ ⟨(fun _ => hB), (p1_ hF.out), (p2_ hF.out), (p3_ hF.out), (p4_ hF.out), (p5_ hF.out), (p6_ hF.out), (p7_ hF.out), (p8_ hF.out), (p9_ hF.out), (p10_ hF.out), (p11_ hF.out), (fun _ => rfl), (p13_ hF.out), (p14_ hF.out), (p15_ hF.out), (p16_ hF.out), (p17_ hF.out), (p18_ hF.out), (p19_ hF.out), (p20_ hF.out), (p21_ hF.out), (p22_ hF.out), (p23_ hF.out), (p24_ hF.out), (fun h => absurd ((p25_ hF.out) h 11 (by decide)) (by simp [hd])), (fun h => absurd ((p25_ hF.out) h 11 (by decide)) (by simp [hd]))⟩
    refine StepsF.cons (o := _) rfl (ws := [11]) (by kernel_rfl) (by decide) (fun d s b w hF hd hw K hK => ?_) ?_
    · have hk : d 23 = false := by cases e : d 23 with | false => rfl | true => exact absurd ((p25_ hF.out) e 12 (by decide)) (by simp [hd])
      have hB : Below x2.heap.size x2 w := (p0_ hF.out) hk
      have e11 : s 27 = .int .i64 3 := (p12_ hF.out) (hw 11 (by decide))
      dsimp only
      go_simp
      exact hK.out (ups (ups s 27 (.int .i64 3)) 28 (.int .i64 12)) b _ ⟨(fun _ => hB), (p1_ hF.out), (p2_ hF.out), (p3_ hF.out), (p4_ hF.out), (p5_ hF.out), (p6_ hF.out), (p7_ hF.out), (p8_ hF.out), (p9_ hF.out), (p10_ hF.out), (p11_ hF.out), (fun _ => rfl), (fun _ => rfl), (p14_ hF.out), (p15_ hF.out), (p16_ hF.out), (p17_ hF.out), (p18_ hF.out), (p19_ hF.out), (p20_ hF.out), (p21_ hF.out), (p22_ hF.out), (p23_ hF.out), (p24_ hF.out), (fun h => absurd ((p25_ hF.out) h 12 (by decide)) (by simp [hd])), (fun h => absurd ((p25_ hF.out) h 12 (by decide)) (by simp [hd]))⟩
    refine StepsF.cons (o := _) rfl (ws := [12]) (by kernel_rfl) (by decide) (fun d s b w hF hd hw K hK => ?_) ?_
    · have hk : d 23 = false := by cases e : d 23 with | false => rfl | true => exact absurd ((p25_ hF.out) e 13 (by decide)) (by simp [hd])
      have hB : Below x2.heap.size x2 w := (p0_ hF.out) hk
      have e12 : s 28 = .int .i64 12 := (p13_ hF.out) (hw 12 (by decide))
      dsimp only
      go_simp
      exact hK.out (ups (ups s 28 (.int .i64 12)) 29 (.int .i64 14)) b _ ⟨(fun _ => hB), (p1_ hF.out), (p2_ hF.out), (p3_ hF.out), (p4_ hF.out), (p5_ hF.out), (p6_ hF.out), (p7_ hF.out), (p8_ hF.out), (p9_ hF.out), (p10_ hF.out), (p11_ hF.out), (p12_ hF.out), (fun _ => rfl), (fun _ => rfl), (p15_ hF.out), (p16_ hF.out), (p17_ hF.out), (p18_ hF.out), (p19_ hF.out), (p20_ hF.out), (p21_ hF.out), (p22_ hF.out), (p23_ hF.out), (p24_ hF.out), (fun h => absurd ((p25_ hF.out) h 13 (by decide)) (by simp [hd])), (fun h => absurd ((p25_ hF.out) h 13 (by decide)) (by simp [hd]))⟩
    refine StepsF.cons (o := _) rfl (ws := [10, 13]) (by kernel_rfl) (by decide) (fun d s b w hF hd hw K hK => ?_) ?_
    · have hk : d 23 = false := by cases e : d 23 with | false => rfl | true => exact absurd ((p25_ hF.out) e 14 (by decide)) (by simp [hd])
      have hB : Below x2.heap.size x2 w := (p0_ hF.out) hk
      have e10 : s 26 = .string { data := #[101, 120, 112, 97, 110, 100, 32, 51, 50, 45, 98, 121, 116, 101, 32, 107] } := (p11_ hF.out) (hw 10 (by decide))
      have e13 : s 29 = .int .i64 14 := (p14_ hF.out) (hw 13 (by decide))
      dsimp only
      go_simp
      exact hK.out (ups (ups (ups s 26 (.string { data := #[101, 120, 112, 97, 110, 100, 32, 51, 50, 45, 98, 121, 116, 101, 32, 107] })) 29 (.int .i64 14)) 30 (.int .u8 32)) b _ ⟨(fun _ => hB), (p1_ hF.out), (p2_ hF.out), (p3_ hF.out), (p4_ hF.out), (p5_ hF.out), (p6_ hF.out), (p7_ hF.out), (p8_ hF.out), (p9_ hF.out), (p10_ hF.out), (fun _ => rfl), (p12_ hF.out), (p13_ hF.out), (fun _ => rfl), (fun _ => rfl), (p16_ hF.out), (p17_ hF.out), (p18_ hF.out), (p19_ hF.out), (p20_ hF.out), (p21_ hF.out), (p22_ hF.out), (p23_ hF.out), (p24_ hF.out), (fun h => absurd ((p25_ hF.out) h 14 (by decide)) (by simp [hd])), (fun h => absurd ((p25_ hF.out) h 14 (by decide)) (by simp [hd]))⟩
    refine StepsF.cons (o := _) rfl (ws := []) (by kernel_rfl) (by decide) (fun d s b w hF hd hw K hK => ?_) ?_
    · have hk : d 23 = false := by cases e : d 23 with | false => rfl | true => exact absurd ((p25_ hF.out) e 15 (by decide)) (by simp [hd])
      have hB : Below x2.heap.size x2 w := (p0_ hF.out) hk
      dsimp only
      go_simp
      exact hK.out (ups s 31 (.string { data := #[101, 120, 112, 97, 110, 100, 32, 51, 50, 45, 98, 121, 116, 101, 32, 107] })) b _ ⟨(fun _ => hB), (p1_ hF.out), (p2_ hF.out), (p3_ hF.out), (p4_ hF.out), (p5_ hF.out), (p6_ hF.out), (p7_ hF.out), (p8_ hF.out), (p9_ hF.out), (p10_ hF.out), (p11_ hF.out), (p12_ hF.out), (p13_ hF.out), (p14_ hF.out), (p15_ hF.out), (fun _ => rfl), (p17_ hF.out), (p18_ hF.out), (p19_ hF.out), (p20_ hF.out), (p21_ hF.out), (p22_ hF.out), (p23_ hF.out), (p24_ hF.out), (fun h => absurd ((p25_ hF.out) h 15 (by decide)) (by simp [hd])), (fun h => absurd ((p25_ hF.out) h 15 (by decide)) (by simp [hd]))⟩
    refine StepsF.cons (o := _) rfl (ws := []) (by kernel_rfl) (by decide) (fun d s b w hF hd hw K hK => ?_) ?_
    · have hk : d 23 = false := by cases e : d 23 with | false => rfl | true => exact absurd ((p25_ hF.out) e 16 (by decide)) (by simp [hd])
      have hB : Below x2.heap.size x2 w := (p0_ hF.out) hk
      dsimp only
      go_simp
      exact hK.out (ups s 32 (.int .i64 3)) b _ ⟨(fun _ => hB), (p1_ hF.out), (p2_ hF.out), (p3_ hF.out), (p4_ hF.out), (p5_ hF.out), (p6_ hF.out), (p7_ hF.out), (p8_ hF.out), (p9_ hF.out), (p10_ hF.out), (p11_ hF.out), (p12_ hF.out), (p13_ hF.out), (p14_ hF.out), (p15_ hF.out), (p16_ hF.out), (fun _ => rfl), (p18_ hF.out), (p19_ hF.out), (p20_ hF.out), (p21_ hF.out), (p22_ hF.out), (p23_ hF.out), (p24_ hF.out), (fun h => absurd ((p25_ hF.out) h 16 (by decide)) (by simp [hd])), (fun h => absurd ((p25_ hF.out) h 16 (by decide)) (by simp [hd]))⟩
    refine StepsF.cons (o := _) rfl (ws := [16]) (by kernel_rfl) (by decide) (fun d s b w hF hd hw K hK => ?_) ?_
    · have hk : d 23 = false := by cases e : d 23 with | false => rfl | true => exact absurd ((p25_ hF.out) e 17 (by decide)) (by simp [hd])
      have hB : Below x2.heap.size x2 w := (p0_ hF.out) hk
      have e16 : s 32 = .int .i64 3 := (p17_ hF.out) (hw 16 (by decide))
      dsimp only
      go_simp
      exact hK.out (ups (ups s 32 (.int .i64 3)) 33 (.int .i64 12)) b _ ⟨(fun _ => hB), (p1_ hF.out), (p2_ hF.out), (p3_ hF.out), (p4_ hF.out), (p5_ hF.out), (p6_ hF.out), (p7_ hF.out), (p8_ hF.out), (p9_ hF.out), (p10_ hF.out), (p11_ hF.out), (p12_ hF.out), (p13_ hF.out), (p14_ hF.out), (p15_ hF.out), (p16_ hF.out), (fun _ => rfl), (fun _ => rfl), (p19_ hF.out), (p20_ hF.out), (p21_ hF.out), (p22_ hF.out), (p23_ hF.out), (p24_ hF.out), (fun h => absurd ((p25_ hF.out) h 17 (by decide)) (by simp [hd])), (fun h => absurd ((p25_ hF.out) h 17 (by decide)) (by simp [hd]))⟩
    refine StepsF.cons (o := _) rfl (ws := [17]) (by kernel_rfl) (by decide) (fun d s b w hF hd hw K hK => ?_) ?_
    · have hk : d 23 = false := by cases e : d 23 with | false => rfl | true => exact absurd ((p25_ hF.out) e 18 (by decide)) (by simp [hd])
      have hB : Below x2.heap.size x2 w := (p0_ hF.out) hk
      have e17 : s 33 = .int .i64 12 := (p18_ hF.out) (hw 17 (by decide))
      dsimp only
      go_simp
      exact hK.out (ups (ups s 33 (.int .i64 12)) 34 (.int .i64 15)) b _ ⟨(fun _ => hB), (p1_ hF.out), (p2_ hF.out), (p3_ hF.out), (p4_ hF.out), (p5_ hF.out), (p6_ hF.out), (p7_ hF.out), (p8_ hF.out), (p9_ hF.out), (p10_ hF.out), (p11_ hF.out), (p12_ hF.out), (p13_ hF.out), (p14_ hF.out), (p15_ hF.out), (p16_ hF.out), (p17_ hF.out), (fun _ => rfl), (fun _ => rfl), (p20_ hF.out), (p21_ hF.out), (p22_ hF.out), (p23_ hF.out), (p24_ hF.out), (fun h => absurd ((p25_ hF.out) h 18 (by decide)) (by simp [hd])), (fun h => absurd ((p25_ hF.out) h 18 (by decide)) (by simp [hd]))⟩
    refine StepsF.cons (o := _) rfl (ws := [15, 18]) (by kernel_rfl) (by decide) (fun d s b w hF hd hw K hK => ?_) ?_
    · have hk : d 23 = false := by cases e : d 23 with | false => rfl | true => exact absurd ((p25_ hF.out) e 19 (by decide)) (by simp [hd])
      have hB : Below x2.heap.size x2 w := (p0_ hF.out) hk
      have e15 : s 31 = .string { data := #[101, 120, 112, 97, 110, 100, 32, 51, 50, 45, 98, 121, 116, 101, 32, 107] } := (p16_ hF.out) (hw 15 (by decide))
      have e18 : s 34 = .int .i64 15 := (p19_ hF.out) (hw 18 (by decide))
      dsimp only
      go_simp
      exact hK.out (ups (ups (ups s 31 (.string { data := #[101, 120, 112, 97, 110, 100, 32, 51, 50, 45, 98, 121, 116, 101, 32, 107] })) 34 (.int .i64 15)) 35 (.int .u8 107)) b _ ⟨(fun _ => hB), (p1_ hF.out), (p2_ hF.out), (p3_ hF.out), (p4_ hF.out), (p5_ hF.out), (p6_ hF.out), (p7_ hF.out), (p8_ hF.out), (p9_ hF.out), (p10_ hF.out), (p11_ hF.out), (p12_ hF.out), (p13_ hF.out), (p14_ hF.out), (p15_ hF.out), (fun _ => rfl), (p17_ hF.out), (p18_ hF.out), (fun _ => rfl), (fun _ => rfl), (p21_ hF.out), (p22_ hF.out), (p23_ hF.out), (p24_ hF.out), (fun h => absurd ((p25_ hF.out) h 19 (by decide)) (by simp [hd])), (fun h => absurd ((p25_ hF.out) h 19 (by decide)) (by simp [hd]))⟩
    refine StepsF.cons (o := _) rfl (ws := [4, 9, 14, 19]) (by kernel_rfl) (by decide) (fun d s b w hF hd hw K hK => ?_) ?_
    · have hk : d 23 = false := by cases e : d 23 with | false => rfl | true => exact absurd ((p25_ hF.out) e 20 (by decide)) (by simp [hd])
      have hB : Below x2.heap.size x2 w := (p0_ hF.out) hk
      have e4 : s 20 = .int .u8 116 := (p5_ hF.out) (hw 4 (by decide))
      have e9 : s 25 = .int .u8 101 := (p10_ hF.out) (hw 9 (by decide))
      have e14 : s 30 = .int .u8 32 := (p15_ hF.out) (hw 14 (by decide))
      have e19 : s 35 = .int .u8 107 := (p20_ hF.out) (hw 19 (by decide))
      dsimp only
      go_simp
      exact hK.out (ups (ups (ups (ups (ups s 20 (.int .u8 116)) 25 (.int .u8 101)) 30 (.int .u8 32)) 35 (.int .u8 107)) 36 (.slice (some ⟨w.heap.size, 0, none⟩) 4 4)) (ups b 20 w.heap.size) _ ⟨(fun _ => (hB.alloc hB.size _)), (p1_ hF.out), (p2_ hF.out), (p3_ hF.out), (p4_ hF.out), (fun _ => rfl), (p6_ hF.out), (p7_ hF.out), (p8_ hF.out), (p9_ hF.out), (fun _ => rfl), (p11_ hF.out), (p12_ hF.out), (p13_ hF.out), (p14_ hF.out), (fun _ => rfl), (p16_ hF.out), (p17_ hF.out), (p18_ hF.out), (p19_ hF.out), (fun _ => rfl), (fun _ => ⟨rfl, hB.size⟩), (fun _ _ => Own.newAt rfl), (p23_ hF.out), (p24_ hF.out), (fun h => absurd ((p25_ hF.out) h 20 (by decide)) (by simp [hd])), (fun h => absurd ((p25_ hF.out) h 20 (by decide)) (by simp [hd]))⟩
    refine StepsF.cons (o := _) rfl (ws := [20]) (by kernel_rfl) (by decide) (fun d s b w hF hd hw K hK => ?_) ?_
    · have hk : d 23 = false := by cases e : d 23 with | false => rfl | true => exact absurd ((p25_ hF.out) e 21 (by decide)) (by simp [hd])
      have hB : Below x2.heap.size x2 w := (p0_ hF.out) hk
      have e20 : s 36 = .slice (some ⟨(b 20), 0, none⟩) 4 4 := ((p21_ hF.out) (hw 20 (by decide))).1
      have le20 : x2.heap.size ≤ b 20 := ((p21_ hF.out) (hw 20 (by decide))).2
      dsimp only
      go_simp
      go_at_call 15
      refine (RNumber_new (b 20) 116 101 32 107 1797285236 (by unfold inB; decide) (by unfold inB; decide) (by unfold inB; decide) (by unfold inB; decide) (by decide) _ (((p22_ hF.out) (hw 20 (by decide))) hd)).mono ?_
      rintro e w1 ⟨rfl, hb⟩
      exact hK.out (ups (ups s 36 (.slice (some ⟨(b 20), 0, none⟩) 4 4)) 37 (.int .u32 1797285236)) b _ ⟨(fun _ => (Below.go hB hb)), (p1_ hF.out), (p2_ hF.out), (p3_ hF.out), (p4_ hF.out), (p5_ hF.out), (p6_ hF.out), (p7_ hF.out), (p8_ hF.out), (p9_ hF.out), (p10_ hF.out), (p11_ hF.out), (p12_ hF.out), (p13_ hF.out), (p14_ hF.out), (p15_ hF.out), (p16_ hF.out), (p17_ hF.out), (p18_ hF.out), (p19_ hF.out), (p20_ hF.out), (fun _ => ⟨rfl, le20⟩), (fun _ h => nomatch h), (fun _ => rfl), (p24_ hF.out), (fun h => absurd ((p25_ hF.out) h 21 (by decide)) (by simp [hd])), (fun h => absurd ((p25_ hF.out) h 21 (by decide)) (by simp [hd]))⟩
    refine StepsF.cons (o := _) rfl (ws := [0, 0, 1, 2, 3, 4, 5, 6, 7, 8, 9, 10, 11, 12, 13, 14, 15, 16, 17, 18, 19, 20, 21]) (by kernel_rfl) (by decide) (fun d s b w hF hd hw K hK => ?_) ?_
    · have hk : d 23 = false := by cases e : d 23 with | false => rfl | true => exact absurd ((p25_ hF.out) e 22 (by decide)) (by simp [hd])
      have hB : Below x2.heap.size x2 w := (p0_ hF.out) hk
      have e0 : s 16 = .int .i64 3 := (p1_ hF.out) (hw 0 (by decide))
      have e1 : s 17 = .string { data := #[101, 120, 112, 97, 110, 100, 32, 51, 50, 45, 98, 121, 116, 101, 32, 107] } := (p2_ hF.out) (hw 1 (by decide))
      have e2 : s 18 = .int .i64 3 := (p3_ hF.out) (hw 2 (by decide))
      have e3 : s 19 = .int .i64 12 := (p4_ hF.out) (hw 3 (by decide))
      have e4 : s 20 = .int .u8 116 := (p5_ hF.out) (hw 4 (by decide))
      have e5 : s 21 = .string { data := #[101, 120, 112, 97, 110, 100, 32, 51, 50, 45, 98, 121, 116, 101, 32, 107] } := (p6_ hF.out) (hw 5 (by decide))
      have e6 : s 22 = .int .i64 3 := (p7_ hF.out) (hw 6 (by decide))
      have e7 : s 23 = .int .i64 12 := (p8_ hF.out) (hw 7 (by decide))
      have e8 : s 24 = .int .i64 13 := (p9_ hF.out) (hw 8 (by decide))
      have e9 : s 25 = .int .u8 101 := (p10_ hF.out) (hw 9 (by decide))
      have e10 : s 26 = .string { data := #[101, 120, 112, 97, 110, 100, 32, 51, 50, 45, 98, 121, 116, 101, 32, 107] } := (p11_ hF.out) (hw 10 (by decide))
      have e11 : s 27 = .int .i64 3 := (p12_ hF.out) (hw 11 (by decide))
      have e12 : s 28 = .int .i64 12 := (p13_ hF.out) (hw 12 (by decide))
      have e13 : s 29 = .int .i64 14 := (p14_ hF.out) (hw 13 (by decide))
      have e14 : s 30 = .int .u8 32 := (p15_ hF.out) (hw 14 (by decide))
      have e15 : s 31 = .string { data := #[101, 120, 112, 97, 110, 100, 32, 51, 50, 45, 98, 121, 116, 101, 32, 107] } := (p16_ hF.out) (hw 15 (by decide))
      have e16 : s 32 = .int .i64 3 := (p17_ hF.out) (hw 16 (by decide))
      have e17 : s 33 = .int .i64 12 := (p18_ hF.out) (hw 17 (by decide))
      have e18 : s 34 = .int .i64 15 := (p19_ hF.out) (hw 18 (by decide))
      have e19 : s 35 = .int .u8 107 := (p20_ hF.out) (hw 19 (by decide))
      have e20 : s 36 = .slice (some ⟨(b 20), 0, none⟩) 4 4 := ((p21_ hF.out) (hw 20 (by decide))).1
      have le20 : x2.heap.size ≤ b 20 := ((p21_ hF.out) (hw 20 (by decide))).2
      have e21 : s 37 = .int .u32 1797285236 := (p23_ hF.out) (hw 21 (by decide))
      dsimp only
      go_simp
      exact hK.out (ups (ups (ups (ups (ups (ups (ups (ups (ups (ups (ups (ups (ups (ups (ups (ups (ups (ups (ups (ups (ups (ups (ups s 16 (.int .i64 3)) 17 (.string { data := #[101, 120, 112, 97, 110, 100, 32, 51, 50, 45, 98, 121, 116, 101, 32, 107] })) 18 (.int .i64 3)) 19 (.int .i64 12)) 20 (.int .u8 116)) 21 (.string { data := #[101, 120, 112, 97, 110, 100, 32, 51, 50, 45, 98, 121, 116, 101, 32, 107] })) 22 (.int .i64 3)) 23 (.int .i64 12)) 24 (.int .i64 13)) 25 (.int .u8 101)) 26 (.string { data := #[101, 120, 112, 97, 110, 100, 32, 51, 50, 45, 98, 121, 116, 101, 32, 107] })) 27 (.int .i64 3)) 28 (.int .i64 12)) 29 (.int .i64 14)) 30 (.int .u8 32)) 31 (.string { data := #[101, 120, 112, 97, 110, 100, 32, 51, 50, 45, 98, 121, 116, 101, 32, 107] })) 32 (.int .i64 3)) 33 (.int .i64 12)) 34 (.int .i64 15)) 35 (.int .u8 107)) 36 (.slice (some ⟨(b 20), 0, none⟩) 4 4)) 37 (.int .u32 1797285236)) 38 (.pointer (some ⟨S, 3, none⟩))) b _ ⟨(fun _ => hB), (fun _ => rfl), (fun _ => rfl), (fun _ => rfl), (fun _ => rfl), (fun _ => rfl), (fun _ => rfl), (fun _ => rfl), (fun _ => rfl), (fun _ => rfl), (fun _ => rfl), (fun _ => rfl), (fun _ => rfl), (fun _ => rfl), (fun _ => rfl), (fun _ => rfl), (fun _ => rfl), (fun _ => rfl), (fun _ => rfl), (fun _ => rfl), (fun _ => rfl), (fun _ => ⟨rfl, le20⟩), (p22_ hF.out), (fun _ => rfl), (fun _ => rfl), (fun h => absurd ((p25_ hF.out) h 22 (by decide)) (by simp [hd])), (fun h => absurd ((p25_ hF.out) h 22 (by decide)) (by simp [hd]))⟩
    refine StepsF.cons (o := _) rfl (ws := [22, 21, 21, 0, 1, 2, 3, 4, 5, 6, 7, 8, 9, 10, 11, 12, 13, 14, 15, 16, 17, 18, 19, 20, 21]) (by kernel_rfl) (by decide) (fun d s b w hF hd hw K hK => ?_) ?_
    · have hB : Below x2.heap.size x2 w := (p0_ hF.out) hd
      have e0 : s 16 = .int .i64 3 := (p1_ hF.out) (hw 0 (by decide))
      have e1 : s 17 = .string { data := #[101, 120, 112, 97, 110, 100, 32, 51, 50, 45, 98, 121, 116, 101, 32, 107] } := (p2_ hF.out) (hw 1 (by decide))
      have e2 : s 18 = .int .i64 3 := (p3_ hF.out) (hw 2 (by decide))
      have e3 : s 19 = .int .i64 12 := (p4_ hF.out) (hw 3 (by decide))
      have e4 : s 20 = .int .u8 116 := (p5_ hF.out) (hw 4 (by decide))
      have e5 : s 21 = .string { data := #[101, 120, 112, 97, 110, 100, 32, 51, 50, 45, 98, 121, 116, 101, 32, 107] } := (p6_ hF.out) (hw 5 (by decide))
      have e6 : s 22 = .int .i64 3 := (p7_ hF.out) (hw 6 (by decide))
      have e7 : s 23 = .int .i64 12 := (p8_ hF.out) (hw 7 (by decide))
      have e8 : s 24 = .int .i64 13 := (p9_ hF.out) (hw 8 (by decide))
      have e9 : s 25 = .int .u8 101 := (p10_ hF.out) (hw 9 (by decide))
      have e10 : s 26 = .string { data := #[101, 120, 112, 97, 110, 100, 32, 51, 50, 45, 98, 121, 116, 101, 32, 107] } := (p11_ hF.out) (hw 10 (by decide))
      have e11 : s 27 = .int .i64 3 := (p12_ hF.out) (hw 11 (by decide))
      have e12 : s 28 = .int .i64 12 := (p13_ hF.out) (hw 12 (by decide))
      have e13 : s 29 = .int .i64 14 := (p14_ hF.out) (hw 13 (by decide))
      have e14 : s 30 = .int .u8 32 := (p15_ hF.out) (hw 14 (by decide))
      have e15 : s 31 = .string { data := #[101, 120, 112, 97, 110, 100, 32, 51, 50, 45, 98, 121, 116, 101, 32, 107] } := (p16_ hF.out) (hw 15 (by decide))
      have e16 : s 32 = .int .i64 3 := (p17_ hF.out) (hw 16 (by decide))
      have e17 : s 33 = .int .i64 12 := (p18_ hF.out) (hw 17 (by decide))
      have e18 : s 34 = .int .i64 15 := (p19_ hF.out) (hw 18 (by decide))
      have e19 : s 35 = .int .u8 107 := (p20_ hF.out) (hw 19 (by decide))
      have e20 : s 36 = .slice (some ⟨(b 20), 0, none⟩) 4 4 := ((p21_ hF.out) (hw 20 (by decide))).1
      have le20 : x2.heap.size ≤ b 20 := ((p21_ hF.out) (hw 20 (by decide))).2
      have e21 : s 37 = .int .u32 1797285236 := (p23_ hF.out) (hw 21 (by decide))
      have e22 : s 38 = .pointer (some ⟨S, 3, none⟩) := (p24_ hF.out) (hw 22 (by decide))
      dsimp only
      have oX := HS.out.later hB
      have fr3 := oX.ok 3 (by simp)
      have ce3 := oX.at 3 _ rfl
      clear oX
      go_simp
      exact hK.out (ups (ups (ups (ups (ups (ups (ups (ups (ups (ups (ups (ups (ups (ups (ups (ups (ups (ups (ups (ups (ups (ups (ups s 16 (.int .i64 3)) 17 (.string { data := #[101, 120, 112, 97, 110, 100, 32, 51, 50, 45, 98, 121, 116, 101, 32, 107] })) 18 (.int .i64 3)) 19 (.int .i64 12)) 20 (.int .u8 116)) 21 (.string { data := #[101, 120, 112, 97, 110, 100, 32, 51, 50, 45, 98, 121, 116, 101, 32, 107] })) 22 (.int .i64 3)) 23 (.int .i64 12)) 24 (.int .i64 13)) 25 (.int .u8 101)) 26 (.string { data := #[101, 120, 112, 97, 110, 100, 32, 51, 50, 45, 98, 121, 116, 101, 32, 107] })) 27 (.int .i64 3)) 28 (.int .i64 12)) 29 (.int .i64 14)) 30 (.int .u8 32)) 31 (.string { data := #[101, 120, 112, 97, 110, 100, 32, 51, 50, 45, 98, 121, 116, 101, 32, 107] })) 32 (.int .i64 3)) 33 (.int .i64 12)) 34 (.int .i64 15)) 35 (.int .u8 107)) 36 (.slice (some ⟨(b 20), 0, none⟩) 4 4)) 37 (.int .u32 1797285236)) 38 (.pointer (some ⟨S, 3, none⟩))) b _ ⟨(fun h => nomatch h), (fun _ => rfl), (fun _ => rfl), (fun _ => rfl), (fun _ => rfl), (fun _ => rfl), (fun _ => rfl), (fun _ => rfl), (fun _ => rfl), (fun _ => rfl), (fun _ => rfl), (fun _ => rfl), (fun _ => rfl), (fun _ => rfl), (fun _ => rfl), (fun _ => rfl), (fun _ => rfl), (fun _ => rfl), (fun _ => rfl), (fun _ => rfl), (fun _ => rfl), (fun _ => ⟨rfl, le20⟩), (fun _ h => absurd (hw 21 (by simp)) (by have h2 : d 21 = false := h; simp [h2])), (fun _ => rfl), (fun _ => rfl), (fun _ j hj => by have hj2 := hw j (by simp; omega); simp [upd, hj2]), (fun _ => ⟨w, hB, rfl⟩)⟩
    exact StepsF.nil
  intro d s b y3 hF hall
  replace hF := Lib.hid hF
  obtain ⟨y3, hB, rfl⟩ := (q26_ hF.out) (hall 23 (by decide))
  try dsimp only
  have e0 : s 16 = .int .i64 3 := (p1_ hF.out) (hall 0 (by decide))
  have e1 : s 17 = .string { data := #[101, 120, 112, 97, 110, 100, 32, 51, 50, 45, 98, 121, 116, 101, 32, 107] } := (p2_ hF.out) (hall 1 (by decide))
  have e2 : s 18 = .int .i64 3 := (p3_ hF.out) (hall 2 (by decide))
  have e3 : s 19 = .int .i64 12 := (p4_ hF.out) (hall 3 (by decide))
  have e4 : s 20 = .int .u8 116 := (p5_ hF.out) (hall 4 (by decide))
  have e5 : s 21 = .string { data := #[101, 120, 112, 97, 110, 100, 32, 51, 50, 45, 98, 121, 116, 101, 32, 107] } := (p6_ hF.out) (hall 5 (by decide))
  have e6 : s 22 = .int .i64 3 := (p7_ hF.out) (hall 6 (by decide))
  have e7 : s 23 = .int .i64 12 := (p8_ hF.out) (hall 7 (by decide))
  have e8 : s 24 = .int .i64 13 := (p9_ hF.out) (hall 8 (by decide))
  have e9 : s 25 = .int .u8 101 := (p10_ hF.out) (hall 9 (by decide))
  have e10 : s 26 = .string { data := #[101, 120, 112, 97, 110, 100, 32, 51, 50, 45, 98, 121, 116, 101, 32, 107] } := (p11_ hF.out) (hall 10 (by decide))
  have e11 : s 27 = .int .i64 3 := (p12_ hF.out) (hall 11 (by decide))
  have e12 : s 28 = .int .i64 12 := (p13_ hF.out) (hall 12 (by decide))
  have e13 : s 29 = .int .i64 14 := (p14_ hF.out) (hall 13 (by decide))
  have e14 : s 30 = .int .u8 32 := (p15_ hF.out) (hall 14 (by decide))
  have e15 : s 31 = .string { data := #[101, 120, 112, 97, 110, 100, 32, 51, 50, 45, 98, 121, 116, 101, 32, 107] } := (p16_ hF.out) (hall 15 (by decide))
  have e16 : s 32 = .int .i64 3 := (p17_ hF.out) (hall 16 (by decide))
  have e17 : s 33 = .int .i64 12 := (p18_ hF.out) (hall 17 (by decide))
  have e18 : s 34 = .int .i64 15 := (p19_ hF.out) (hall 18 (by decide))
  have e19 : s 35 = .int .u8 107 := (p20_ hF.out) (hall 19 (by decide))
  have e20 : s 36 = .slice (some ⟨(b 20), 0, none⟩) 4 4 := ((p21_ hF.out) (hall 20 (by decide))).1
  have le20 : x2.heap.size ≤ b 20 := ((p21_ hF.out) (hall 20 (by decide))).2
  have e21 : s 37 = .int .u32 1797285236 := (p23_ hF.out) (hall 21 (by decide))
  have e22 : s 38 = .pointer (some ⟨S, 3, none⟩) := (p24_ hF.out) (hall 22 (by decide))
  rw [e0, e1, e2, e3, e4, e5, e6, e7, e8, e9, e10, e11, e12, e13, e14, e15, e16, e17, e18, e19, e20, e21, e22]
  clear hall hF e0 e1 e2 e3 e4 e5 e6 e7 e8 e9 e10 e11 e12 e13 e14 e15 e16 e17 e18 e19 e20 e21 e22
  obtain ⟨B, hz⟩ : ∃ x, x = b 20 := ⟨_, rfl⟩
  rw [← hz] at le20 ⊢
  clear hz
  clear d s b
  have HSk := Lib.hid (HS.out.later hB)
  have HKk := Lib.hid (HK.out.later hB)
  have HMk := Lib.hid (HM.out.later hB)
  have HRk := Lib.hid (HR.out.later hB)
  clear HS HK HM HR
  have HS := HSk
  clear HSk
  have HK := HKk
  clear HKk
  have HM := HMk
  clear HMk
  have HR := HRk
  clear HRk
  have hB1 := Below.go hB0 hB
  clear hB0 hB
  have hB0 := hB1
  clear hB1
  have HSn : Hid (Own S ([.int .u32 1634760805, .int .u32 857760878, .int .u32 2036477234, .int .u32 1797285236, .int .u32 0, .int .u32 0, .int .u32 0, .int .u32 0, .int .u32 0, .int .u32 0, .int .u32 0, .int .u32 0, .int .u32 0, .int .u32 0, .int .u32 0, .int .u32 0]) (y3.setCells S 3 [.int .u32 1797285236])) := Lib.hid (show Own S (over _ 3 [.int .u32 1797285236]) _ from Own.part HS.out (by simp))
  have HKn : Hid (Own K (nums .u8 kf 32) (y3.setCells S 3 [.int .u32 1797285236])) := Lib.hid (Own.far (o := 3) (vs := [.int .u32 1797285236]) HK.out nKS)
  have HMn : Hid (Own M (nums .u8 nf 12) (y3.setCells S 3 [.int .u32 1797285236])) := Lib.hid (Own.far (o := 3) (vs := [.int .u32 1797285236]) HM.out nMS)
  have HRn : Hid (Own R ([.int .u32 0, .int .u32 0, .int .u32 0, .int .u32 0, .int .u32 0, .int .u32 0, .int .u32 0, .int .u32 0, .int .u32 0, .int .u32 0, .int .u32 0, .int .u32 0, .int .u32 0, .int .u32 0, .int .u32 0, .int .u32 0]) (y3.setCells S 3 [.int .u32 1797285236])) := Lib.hid (Own.far (o := 3) (vs := [.int .u32 1797285236]) HR.out nRS)
  have hB0n : Below w.heap.size w (y3.setCells S 3 [.int .u32 1797285236]) := Below.setCells hB0 Sw [.int .u32 1797285236] 3
  clear HS HK HM HR hB0
  generalize (y3.setCells S 3 [.int .u32 1797285236]) = x3 at *
  have HS := HSn
  clear HSn
  have HK := HKn
  clear HKn
  have HM := HMn
  clear HMn
  have HR := HRn
  clear HRn
  have hB0 := hB0n
  clear hB0n
  go_wp2_with (fail)
  rw [rounds_succ]
  go_wp2_with (fail)
  refine wp_loop_rounds 9 ?_
  rw [rounds_succ]
  go_wp2_with (fail)
  go_at_call 15
  refine (RNumber_own K 0 _ _ 32 kf FK.out (by decide) (by decide) _ HK.out).mono ?_
  rintro e w1 ⟨rfl, hb⟩
  rw [ek0]
  have HSk := Lib.hid (HS.out.later hb)
  have HKk := Lib.hid (HK.out.later hb)
  have HMk := Lib.hid (HM.out.later hb)
  have HRk := Lib.hid (HR.out.later hb)
  clear HS HK HM HR
  have HS := HSk
  clear HSk
  have HK := HKk
  clear HKk
  have HM := HMk
  clear HMk
  have HR := HRk
  clear HRk
  have hB1 := Below.go hB0 hb
  clear hB0 hb
  have hB0 := hB1
  clear hB1
  have oS := HS.out
  have S4 := oS.at 4 _ rfl
  have Sf4 := oS.ok 4 (by simp)
  have Sl := oS.lt
  clear oS
  go_wp2_with (fail)
  clear S4 Sf4 Sl
  change Code.rounds _ _ _ _ _ (w1.setCells S 4 [.int .u32 k0])
  have HSn : Hid (Own S ([.int .u32 1634760805, .int .u32 857760878, .int .u32 2036477234, .int .u32 1797285236, .int .u32 k0, .int .u32 0, .int .u32 0, .int .u32 0, .int .u32 0, .int .u32 0, .int .u32 0, .int .u32 0, .int .u32 0, .int .u32 0, .int .u32 0, .int .u32 0]) (w1.setCells S 4 [.int .u32 k0])) := Lib.hid (show Own S (over _ 4 [.int .u32 k0]) _ from Own.part HS.out (by simp))
  have HKn : Hid (Own K (nums .u8 kf 32) (w1.setCells S 4 [.int .u32 k0])) := Lib.hid (Own.far (o := 4) (vs := [.int .u32 k0]) HK.out nKS)
  have HMn : Hid (Own M (nums .u8 nf 12) (w1.setCells S 4 [.int .u32 k0])) := Lib.hid (Own.far (o := 4) (vs := [.int .u32 k0]) HM.out nMS)
  have HRn : Hid (Own R ([.int .u32 0, .int .u32 0, .int .u32 0, .int .u32 0, .int .u32 0, .int .u32 0, .int .u32 0, .int .u32 0, .int .u32 0, .int .u32 0, .int .u32 0, .int .u32 0, .int .u32 0, .int .u32 0, .int .u32 0, .int .u32 0]) (w1.setCells S 4 [.int .u32 k0])) := Lib.hid (Own.far (o := 4) (vs := [.int .u32 k0]) HR.out nRS)
  have hB0n : Below w.heap.size w (w1.setCells S 4 [.int .u32 k0]) := Below.setCells hB0 Sw [.int .u32 k0] 4
  clear HS HK HM HR hB0
  generalize (w1.setCells S 4 [.int .u32 k0]) = w2 at *
  have HS := HSn
  clear HSn
  have HK := HKn
  clear HKn
  have HM := HMn
  clear HMn
  have HR := HRn
  clear HRn
  have hB0 := hB0n
  clear hB0n
  rw [rounds_succ]
  go_wp2_with (fail)
  go_at_call 15
  refine (RNumber_own K 4 _ _ 32 kf FK.out (by decide) (by decide) _ HK.out).mono ?_
  rintro e w1 ⟨rfl, hb⟩
  rw [ek1]
  have HSk := Lib.hid (HS.out.later hb)
  have HKk := Lib.hid (HK.out.later hb)
  have HMk := Lib.hid (HM.out.later hb)
  have HRk := Lib.hid (HR.out.later hb)
  clear HS HK HM HR
  have HS := HSk
  clear HSk
  have HK := HKk
  clear HKk
  have HM := HMk
  clear HMk
  have HR := HRk
  clear HRk
  have hB1 := Below.go hB0 hb
  clear hB0 hb
  have hB0 := hB1
  clear hB1
  have oS := HS.out
  have S5 := oS.at 5 _ rfl
  have Sf5 := oS.ok 5 (by simp)
  have Sl := oS.lt
  clear oS
  go_wp2_with (fail)
  clear S5 Sf5 Sl
  change Code.rounds _ _ _ _ _ (w1.setCells S 5 [.int .u32 k1])
  have HSn : Hid (Own S ([.int .u32 1634760805, .int .u32 857760878, .int .u32 2036477234, .int .u32 1797285236, .int .u32 k0, .int .u32 k1, .int .u32 0, .int .u32 0, .int .u32 0, .int .u32 0, .int .u32 0, .int .u32 0, .int .u32 0, .int .u32 0, .int .u32 0, .int .u32 0]) (w1.setCells S 5 [.int .u32 k1])) := Lib.hid (show Own S (over _ 5 [.int .u32 k1]) _ from Own.part HS.out (by simp))
  have HKn : Hid (Own K (nums .u8 kf 32) (w1.setCells S 5 [.int .u32 k1])) := Lib.hid (Own.far (o := 5) (vs := [.int .u32 k1]) HK.out nKS)
  have HMn : Hid (Own M (nums .u8 nf 12) (w1.setCells S 5 [.int .u32 k1])) := Lib.hid (Own.far (o := 5) (vs := [.int .u32 k1]) HM.out nMS)
  have HRn : Hid (Own R ([.int .u32 0, .int .u32 0, .int .u32 0, .int .u32 0, .int .u32 0, .int .u32 0, .int .u32 0, .int .u32 0, .int .u32 0, .int .u32 0, .int .u32 0, .int .u32 0, .int .u32 0, .int .u32 0, .int .u32 0, .int .u32 0]) (w1.setCells S 5 [.int .u32 k1])) := Lib.hid (Own.far (o := 5) (vs := [.int .u32 k1]) HR.out nRS)
  have hB0n : Below w.heap.size w (w1.setCells S 5 [.int .u32 k1]) := Below.setCells hB0 Sw [.int .u32 k1] 5
  clear HS HK HM HR hB0
  generalize (w1.setCells S 5 [.int .u32 k1]) = w2 at *
  have HS := HSn
  clear HSn
  have HK := HKn
  clear HKn
  have HM := HMn
  clear HMn
  have HR := HRn
  clear HRn
  have hB0 := hB0n
  clear hB0n
  rw [rounds_succ]
  go_wp2_with (fail)
  go_at_call 15
  refine (RNumber_own K 8 _ _ 32 kf FK.out (by decide) (by decide) _ HK.out).mono ?_
  rintro e w1 ⟨rfl, hb⟩
  rw [ek2]
  have HSk := Lib.hid (HS.out.later hb)
  have HKk := Lib.hid (HK.out.later hb)
  have HMk := Lib.hid (HM.out.later hb)
  have HRk := Lib.hid (HR.out.later hb)
  clear HS HK HM HR
  have HS := HSk
  clear HSk
  have HK := HKk
  clear HKk
  have HM := HMk
  clear HMk
  have HR := HRk
  clear HRk
  have hB1 := Below.go hB0 hb
  clear hB0 hb
  have hB0 := hB1
  clear hB1
  have oS := HS.out
  have S6 := oS.at 6 _ rfl
  have Sf6 := oS.ok 6 (by simp)
  have Sl := oS.lt
  clear oS
  go_wp2_with (fail)
  clear S6 Sf6 Sl
  change Code.rounds _ _ _ _ _ (w1.setCells S 6 [.int .u32 k2])
  have HSn : Hid (Own S ([.int .u32 1634760805, .int .u32 857760878, .int .u32 2036477234, .int .u32 1797285236, .int .u32 k0, .int .u32 k1, .int .u32 k2, .int .u32 0, .int .u32 0, .int .u32 0, .int .u32 0, .int .u32 0, .int .u32 0, .int .u32 0, .int .u32 0, .int .u32 0]) (w1.setCells S 6 [.int .u32 k2])) := Lib.hid (show Own S (over _ 6 [.int .u32 k2]) _ from Own.part HS.out (by simp))
  have HKn : Hid (Own K (nums .u8 kf 32) (w1.setCells S 6 [.int .u32 k2])) := Lib.hid (Own.far (o := 6) (vs := [.int .u32 k2]) HK.out nKS)
  have HMn : Hid (Own M (nums .u8 nf 12) (w1.setCells S 6 [.int .u32 k2])) := Lib.hid (Own.far (o := 6) (vs := [.int .u32 k2]) HM.out nMS)
  have HRn : Hid (Own R ([.int .u32 0, .int .u32 0, .int .u32 0, .int .u32 0, .int .u32 0, .int .u32 0, .int .u32 0, .int .u32 0, .int .u32 0, .int .u32 0, .int .u32 0, .int .u32 0, .int .u32 0, .int .u32 0, .int .u32 0, .int .u32 0]) (w1.setCells S 6 [.int .u32 k2])) := Lib.hid (Own.far (o := 6) (vs := [.int .u32 k2]) HR.out nRS)
  have hB0n : Below w.heap.size w (w1.setCells S 6 [.int .u32 k2]) := Below.setCells hB0 Sw [.int .u32 k2] 6
  clear HS HK HM HR hB0
  generalize (w1.setCells S 6 [.int .u32 k2]) = w2 at *
  have HS := HSn
  clear HSn
  have HK := HKn
  clear HKn
  have HM := HMn
  clear HMn
  have HR := HRn
  clear HRn
  have hB0 := hB0n
  clear hB0n
  rw [rounds_succ]
  go_wp2_with (fail)
  go_at_call 15
  refine (RNumber_own K 12 _ _ 32 kf FK.out (by decide) (by decide) _ HK.out).mono ?_
  rintro e w1 ⟨rfl, hb⟩
  rw [ek3]
  have HSk := Lib.hid (HS.out.later hb)
  have HKk := Lib.hid (HK.out.later hb)
  have HMk := Lib.hid (HM.out.later hb)
  have HRk := Lib.hid (HR.out.later hb)
  clear HS HK HM HR
  have HS := HSk
  clear HSk
  have HK := HKk
  clear HKk
  have HM := HMk
  clear HMk
  have HR := HRk
  clear HRk
  have hB1 := Below.go hB0 hb
  clear hB0 hb
  have hB0 := hB1
  clear hB1
  have oS := HS.out
  have S7 := oS.at 7 _ rfl
  have Sf7 := oS.ok 7 (by simp)
  have Sl := oS.lt
  clear oS
  go_wp2_with (fail)
  clear S7 Sf7 Sl
  change Code.rounds _ _ _ _ _ (w1.setCells S 7 [.int .u32 k3])
  have HSn : Hid (Own S ([.int .u32 1634760805, .int .u32 857760878, .int .u32 2036477234, .int .u32 1797285236, .int .u32 k0, .int .u32 k1, .int .u32 k2, .int .u32 k3, .int .u32 0, .int .u32 0, .int .u32 0, .int .u32 0, .int .u32 0, .int .u32 0, .int .u32 0, .int .u32 0]) (w1.setCells S 7 [.int .u32 k3])) := Lib.hid (show Own S (over _ 7 [.int .u32 k3]) _ from Own.part HS.out (by simp))
  have HKn : Hid (Own K (nums .u8 kf 32) (w1.setCells S 7 [.int .u32 k3])) := Lib.hid (Own.far (o := 7) (vs := [.int .u32 k3]) HK.out nKS)
  have HMn : Hid (Own M (nums .u8 nf 12) (w1.setCells S 7 [.int .u32 k3])) := Lib.hid (Own.far (o := 7) (vs := [.int .u32 k3]) HM.out nMS)
  have HRn : Hid (Own R ([.int .u32 0, .int .u32 0, .int .u32 0, .int .u32 0, .int .u32 0, .int .u32 0, .int .u32 0, .int .u32 0, .int .u32 0, .int .u32 0, .int .u32 0, .int .u32 0, .int .u32 0, .int .u32 0, .int .u32 0, .int .u32 0]) (w1.setCells S 7 [.int .u32 k3])) := Lib.hid (Own.far (o := 7) (vs := [.int .u32 k3]) HR.out nRS)
  have hB0n : Below w.heap.size w (w1.setCells S 7 [.int .u32 k3]) := Below.setCells hB0 Sw [.int .u32 k3] 7
  clear HS HK HM HR hB0
  generalize (w1.setCells S 7 [.int .u32 k3]) = w2 at *
  have HS := HSn
  clear HSn
  have HK := HKn
  clear HKn
  have HM := HMn
  clear HMn
  have HR := HRn
  clear HRn
  have hB0 := hB0n
  clear hB0n
  rw [rounds_succ]
  go_wp2_with (fail)
  go_at_call 15
  refine (RNumber_own K 16 _ _ 32 kf FK.out (by decide) (by decide) _ HK.out).mono ?_
  rintro e w1 ⟨rfl, hb⟩
  rw [ek4]
  have HSk := Lib.hid (HS.out.later hb)
  have HKk := Lib.hid (HK.out.later hb)
  have HMk := Lib.hid (HM.out.later hb)
  have HRk := Lib.hid (HR.out.later hb)
  clear HS HK HM HR
  have HS := HSk
  clear HSk
  have HK := HKk
  clear HKk
  have HM := HMk
  clear HMk
  have HR := HRk
  clear HRk
  have hB1 := Below.go hB0 hb
  clear hB0 hb
  have hB0 := hB1
  clear hB1
  have oS := HS.out
  have S8 := oS.at 8 _ rfl
  have Sf8 := oS.ok 8 (by simp)
  have Sl := oS.lt
  clear oS
  go_wp2_with (fail)
  clear S8 Sf8 Sl
  change Code.rounds _ _ _ _ _ (w1.setCells S 8 [.int .u32 k4])
  have HSn : Hid (Own S ([.int .u32 1634760805, .int .u32 857760878, .int .u32 2036477234, .int .u32 1797285236, .int .u32 k0, .int .u32 k1, .int .u32 k2, .int .u32 k3, .int .u32 k4, .int .u32 0, .int .u32 0, .int .u32 0, .int .u32 0, .int .u32 0, .int .u32 0, .int .u32 0]) (w1.setCells S 8 [.int .u32 k4])) := Lib.hid (show Own S (over _ 8 [.int .u32 k4]) _ from Own.part HS.out (by simp))
  have HKn : Hid (Own K (nums .u8 kf 32) (w1.setCells S 8 [.int .u32 k4])) := Lib.hid (Own.far (o := 8) (vs := [.int .u32 k4]) HK.out nKS)
  have HMn : Hid (Own M (nums .u8 nf 12) (w1.setCells S 8 [.int .u32 k4])) := Lib.hid (Own.far (o := 8) (vs := [.int .u32 k4]) HM.out nMS)
  have HRn : Hid (Own R ([.int .u32 0, .int .u32 0, .int .u32 0, .int .u32 0, .int .u32 0, .int .u32 0, .int .u32 0, .int .u32 0, .int .u32 0, .int .u32 0, .int .u32 0, .int .u32 0, .int .u32 0, .int .u32 0, .int .u32 0, .int .u32 0]) (w1.setCells S 8 [.int .u32 k4])) := Lib.hid (Own.far (o := 8) (vs := [.int .u32 k4]) HR.out nRS)
  have hB0n : Below w.heap.size w (w1.setCells S 8 [.int .u32 k4]) := Below.setCells hB0 Sw [.int .u32 k4] 8
  clear HS HK HM HR hB0
  generalize (w1.setCells S 8 [.int .u32 k4]) = w2 at *
  have HS := HSn
  clear HSn
  have HK := HKn
  clear HKn
  have HM := HMn
  clear HMn
  have HR := HRn
  clear HRn
  have hB0 := hB0n
  clear hB0n
  rw [rounds_succ]
  go_wp2_with (fail)
  go_at_call 15
  refine (RNumber_own K 20 _ _ 32 kf FK.out (by decide) (by decide) _ HK.out).mono ?_
  rintro e w1 ⟨rfl, hb⟩
  rw [ek5]
  have HSk := Lib.hid (HS.out.later hb)
  have HKk := Lib.hid (HK.out.later hb)
  have HMk := Lib.hid (HM.out.later hb)
  have HRk := Lib.hid (HR.out.later hb)
  clear HS HK HM HR
  have HS := HSk
  clear HSk
  have HK := HKk
  clear HKk
  have HM := HMk
  clear HMk
  have HR := HRk
  clear HRk
  have hB1 := Below.go hB0 hb
  clear hB0 hb
  have hB0 := hB1
  clear hB1
  have oS := HS.out
  have S9 := oS.at 9 _ rfl
  have Sf9 := oS.ok 9 (by simp)
  have Sl := oS.lt
  clear oS
  go_wp2_with (fail)
  clear S9 Sf9 Sl
  change Code.rounds _ _ _ _ _ (w1.setCells S 9 [.int .u32 k5])
  have HSn : Hid (Own S ([.int .u32 1634760805, .int .u32 857760878, .int .u32 2036477234, .int .u32 1797285236, .int .u32 k0, .int .u32 k1, .int .u32 k2, .int .u32 k3, .int .u32 k4, .int .u32 k5, .int .u32 0, .int .u32 0, .int .u32 0, .int .u32 0, .int .u32 0, .int .u32 0]) (w1.setCells S 9 [.int .u32 k5])) := Lib.hid (show Own S (over _ 9 [.int .u32 k5]) _ from Own.part HS.out (by simp))
  have HKn : Hid (Own K (nums .u8 kf 32) (w1.setCells S 9 [.int .u32 k5])) := Lib.hid (Own.far (o := 9) (vs := [.int .u32 k5]) HK.out nKS)
  have HMn : Hid (Own M (nums .u8 nf 12) (w1.setCells S 9 [.int .u32 k5])) := Lib.hid (Own.far (o := 9) (vs := [.int .u32 k5]) HM.out nMS)
  have HRn : Hid (Own R ([.int .u32 0, .int .u32 0, .int .u32 0, .int .u32 0, .int .u32 0, .int .u32 0, .int .u32 0, .int .u32 0, .int .u32 0, .int .u32 0, .int .u32 0, .int .u32 0, .int .u32 0, .int .u32 0, .int .u32 0, .int .u32 0]) (w1.setCells S 9 [.int .u32 k5])) := Lib.hid (Own.far (o := 9) (vs := [.int .u32 k5]) HR.out nRS)
  have hB0n : Below w.heap.size w (w1.setCells S 9 [.int .u32 k5]) := Below.setCells hB0 Sw [.int .u32 k5] 9
  clear HS HK HM HR hB0
  generalize (w1.setCells S 9 [.int .u32 k5]) = w2 at *
  have HS := HSn
  clear HSn
  have HK := HKn
  clear HKn
  have HM := HMn
  clear HMn
  have HR := HRn
  clear HRn
  have hB0 := hB0n
  clear hB0n
  rw [rounds_succ]
  go_wp2_with (fail)
  go_at_call 15
  refine (RNumber_own K 24 _ _ 32 kf FK.out (by decide) (by decide) _ HK.out).mono ?_
  rintro e w1 ⟨rfl, hb⟩
  rw [ek6]
  have HSk := Lib.hid (HS.out.later hb)
  have HKk := Lib.hid (HK.out.later hb)
  have HMk := Lib.hid (HM.out.later hb)
  have HRk := Lib.hid (HR.out.later hb)
  clear HS HK HM HR
  have HS := HSk
  clear HSk
  have HK := HKk
  clear HKk
  have HM := HMk
  clear HMk
  have HR := HRk
  clear HRk
  have hB1 := Below.go hB0 hb
  clear hB0 hb
  have hB0 := hB1
  clear hB1
  have oS := HS.out
  have S10 := oS.at 10 _ rfl
  have Sf10 := oS.ok 10 (by simp)
  have Sl := oS.lt
  clear oS
  go_wp2_with (fail)
  clear S10 Sf10 Sl
  change Code.rounds _ _ _ _ _ (w1.setCells S 10 [.int .u32 k6])
  have HSn : Hid (Own S ([.int .u32 1634760805, .int .u32 857760878, .int .u32 2036477234, .int .u32 1797285236, .int .u32 k0, .int .u32 k1, .int .u32 k2, .int .u32 k3, .int .u32 k4, .int .u32 k5, .int .u32 k6, .int .u32 0, .int .u32 0, .int .u32 0, .int .u32 0, .int .u32 0]) (w1.setCells S 10 [.int .u32 k6])) := Lib.hid (show Own S (over _ 10 [.int .u32 k6]) _ from Own.part HS.out (by simp))
  have HKn : Hid (Own K (nums .u8 kf 32) (w1.setCells S 10 [.int .u32 k6])) := Lib.hid (Own.far (o := 10) (vs := [.int .u32 k6]) HK.out nKS)
  have HMn : Hid (Own M (nums .u8 nf 12) (w1.setCells S 10 [.int .u32 k6])) := Lib.hid (Own.far (o := 10) (vs := [.int .u32 k6]) HM.out nMS)
  have HRn : Hid (Own R ([.int .u32 0, .int .u32 0, .int .u32 0, .int .u32 0, .int .u32 0, .int .u32 0, .int .u32 0, .int .u32 0, .int .u32 0, .int .u32 0, .int .u32 0, .int .u32 0, .int .u32 0, .int .u32 0, .int .u32 0, .int .u32 0]) (w1.setCells S 10 [.int .u32 k6])) := Lib.hid (Own.far (o := 10) (vs := [.int .u32 k6]) HR.out nRS)
  have hB0n : Below w.heap.size w (w1.setCells S 10 [.int .u32 k6]) := Below.setCells hB0 Sw [.int .u32 k6] 10
  clear HS HK HM HR hB0
  generalize (w1.setCells S 10 [.int .u32 k6]) = w2 at *
  have HS := HSn
  clear HSn
  have HK := HKn
  clear HKn
  have HM := HMn
  clear HMn
  have HR := HRn
  clear HRn
  have hB0 := hB0n
  clear hB0n
  rw [rounds_succ]
  go_wp2_with (fail)
  go_at_call 15
  refine (RNumber_own K 28 _ _ 32 kf FK.out (by decide) (by decide) _ HK.out).mono ?_
  rintro e w1 ⟨rfl, hb⟩
  rw [ek7]
  have HSk := Lib.hid (HS.out.later hb)
  have HKk := Lib.hid (HK.out.later hb)
  have HMk := Lib.hid (HM.out.later hb)
  have HRk := Lib.hid (HR.out.later hb)
  clear HS HK HM HR
  have HS := HSk
  clear HSk
  have HK := HKk
  clear HKk
  have HM := HMk
  clear HMk
  have HR := HRk
  clear HRk
  have hB1 := Below.go hB0 hb
  clear hB0 hb
  have hB0 := hB1
  clear hB1
  have oS := HS.out
  have S11 := oS.at 11 _ rfl
  have Sf11 := oS.ok 11 (by simp)
  have Sl := oS.lt
  clear oS
  go_wp2_with (fail)
  clear S11 Sf11 Sl
  change Code.rounds _ _ _ _ _ (w1.setCells S 11 [.int .u32 k7])
  have HSn : Hid (Own S ([.int .u32 1634760805, .int .u32 857760878, .int .u32 2036477234, .int .u32 1797285236, .int .u32 k0, .int .u32 k1, .int .u32 k2, .int .u32 k3, .int .u32 k4, .int .u32 k5, .int .u32 k6, .int .u32 k7, .int .u32 0, .int .u32 0, .int .u32 0, .int .u32 0]) (w1.setCells S 11 [.int .u32 k7])) := Lib.hid (show Own S (over _ 11 [.int .u32 k7]) _ from Own.part HS.out (by simp))
  have HKn : Hid (Own K (nums .u8 kf 32) (w1.setCells S 11 [.int .u32 k7])) := Lib.hid (Own.far (o := 11) (vs := [.int .u32 k7]) HK.out nKS)
  have HMn : Hid (Own M (nums .u8 nf 12) (w1.setCells S 11 [.int .u32 k7])) := Lib.hid (Own.far (o := 11) (vs := [.int .u32 k7]) HM.out nMS)
  have HRn : Hid (Own R ([.int .u32 0, .int .u32 0, .int .u32 0, .int .u32 0, .int .u32 0, .int .u32 0, .int .u32 0, .int .u32 0, .int .u32 0, .int .u32 0, .int .u32 0, .int .u32 0, .int .u32 0, .int .u32 0, .int .u32 0, .int .u32 0]) (w1.setCells S 11 [.int .u32 k7])) := Lib.hid (Own.far (o := 11) (vs := [.int .u32 k7]) HR.out nRS)
  have hB0n : Below w.heap.size w (w1.setCells S 11 [.int .u32 k7]) := Below.setCells hB0 Sw [.int .u32 k7] 11
  clear HS HK HM HR hB0
  generalize (w1.setCells S 11 [.int .u32 k7]) = w2 at *
  have HS := HSn
  clear HSn
  have HK := HKn
  clear HKn
  have HM := HMn
  clear HMn
  have HR := HRn
  clear HRn
  have hB0 := hB0n
  clear hB0n
  have oS := HS.out
  have S12 := oS.at 12 _ rfl
  have Sf12 := oS.ok 12 (by simp)
  have Sl := oS.lt
  clear oS
  rw [rounds_succ]
  go_wp2_with (fail)
  clear S12 Sf12 Sl
  rw [show (w2.setCell ⟨S, 12, none⟩ (.int .u32 c)) = w2.setCells S 12 [.int .u32 c] from rfl]
  have HSn : Hid (Own S ([.int .u32 1634760805, .int .u32 857760878, .int .u32 2036477234, .int .u32 1797285236, .int .u32 k0, .int .u32 k1, .int .u32 k2, .int .u32 k3, .int .u32 k4, .int .u32 k5, .int .u32 k6, .int .u32 k7, .int .u32 c, .int .u32 0, .int .u32 0, .int .u32 0]) (w2.setCells S 12 [.int .u32 c])) := Lib.hid (show Own S (over _ 12 [.int .u32 c]) _ from Own.part HS.out (by simp))
  have HKn : Hid (Own K (nums .u8 kf 32) (w2.setCells S 12 [.int .u32 c])) := Lib.hid (Own.far (o := 12) (vs := [.int .u32 c]) HK.out nKS)
  have HMn : Hid (Own M (nums .u8 nf 12) (w2.setCells S 12 [.int .u32 c])) := Lib.hid (Own.far (o := 12) (vs := [.int .u32 c]) HM.out nMS)
  have HRn : Hid (Own R ([.int .u32 0, .int .u32 0, .int .u32 0, .int .u32 0, .int .u32 0, .int .u32 0, .int .u32 0, .int .u32 0, .int .u32 0, .int .u32 0, .int .u32 0, .int .u32 0, .int .u32 0, .int .u32 0, .int .u32 0, .int .u32 0]) (w2.setCells S 12 [.int .u32 c])) := Lib.hid (Own.far (o := 12) (vs := [.int .u32 c]) HR.out nRS)
  have hB0n : Below w.heap.size w (w2.setCells S 12 [.int .u32 c]) := Below.setCells hB0 Sw [.int .u32 c] 12
  clear HS HK HM HR hB0
  generalize (w2.setCells S 12 [.int .u32 c]) = w3 at *
  have HS := HSn
  clear HSn
  have HK := HKn
  clear HKn
  have HM := HMn
  clear HMn
  have HR := HRn
  clear HRn
  have hB0 := hB0n
  clear hB0n
  refine wp_loop_rounds 4 ?_
  rw [rounds_succ]
  go_wp2_with (fail)
  go_at_call 15
  refine (RNumber_own M 0 _ _ 12 nf FN.out (by decide) (by decide) _ HM.out).mono ?_
  rintro e w1 ⟨rfl, hb⟩
  rw [em0]
  have HSk := Lib.hid (HS.out.later hb)
  have HKk := Lib.hid (HK.out.later hb)
  have HMk := Lib.hid (HM.out.later hb)
  have HRk := Lib.hid (HR.out.later hb)
  clear HS HK HM HR
  have HS := HSk
  clear HSk
  have HK := HKk
  clear HKk
  have HM := HMk
  clear HMk
  have HR := HRk
  clear HRk
  have hB1 := Below.go hB0 hb
  clear hB0 hb
  have hB0 := hB1
  clear hB1
  have oS := HS.out
  have S13 := oS.at 13 _ rfl
  have Sf13 := oS.ok 13 (by simp)
  have Sl := oS.lt
  clear oS
  go_wp2_with (fail)
  clear S13 Sf13 Sl
  change Code.rounds _ _ _ _ _ (w1.setCells S 13 [.int .u32 m0])
  have HSn : Hid (Own S ([.int .u32 1634760805, .int .u32 857760878, .int .u32 2036477234, .int .u32 1797285236, .int .u32 k0, .int .u32 k1, .int .u32 k2, .int .u32 k3, .int .u32 k4, .int .u32 k5, .int .u32 k6, .int .u32 k7, .int .u32 c, .int .u32 m0, .int .u32 0, .int .u32 0]) (w1.setCells S 13 [.int .u32 m0])) := Lib.hid (show Own S (over _ 13 [.int .u32 m0]) _ from Own.part HS.out (by simp))
  have HKn : Hid (Own K (nums .u8 kf 32) (w1.setCells S 13 [.int .u32 m0])) := Lib.hid (Own.far (o := 13) (vs := [.int .u32 m0]) HK.out nKS)
  have HMn : Hid (Own M (nums .u8 nf 12) (w1.setCells S 13 [.int .u32 m0])) := Lib.hid (Own.far (o := 13) (vs := [.int .u32 m0]) HM.out nMS)
  have HRn : Hid (Own R ([.int .u32 0, .int .u32 0, .int .u32 0, .int .u32 0, .int .u32 0, .int .u32 0, .int .u32 0, .int .u32 0, .int .u32 0, .int .u32 0, .int .u32 0, .int .u32 0, .int .u32 0, .int .u32 0, .int .u32 0, .int .u32 0]) (w1.setCells S 13 [.int .u32 m0])) := Lib.hid (Own.far (o := 13) (vs := [.int .u32 m0]) HR.out nRS)
  have hB0n : Below w.heap.size w (w1.setCells S 13 [.int .u32 m0]) := Below.setCells hB0 Sw [.int .u32 m0] 13
  clear HS HK HM HR hB0
  generalize (w1.setCells S 13 [.int .u32 m0]) = w2 at *
  have HS := HSn
  clear HSn
  have HK := HKn
  clear HKn
  have HM := HMn
  clear HMn
  have HR := HRn
  clear HRn
  have hB0 := hB0n
  clear hB0n
  rw [rounds_succ]
  go_wp2_with (fail)
  go_at_call 15
  refine (RNumber_own M 4 _ _ 12 nf FN.out (by decide) (by decide) _ HM.out).mono ?_
  rintro e w1 ⟨rfl, hb⟩
  rw [em1]
  have HSk := Lib.hid (HS.out.later hb)
  have HKk := Lib.hid (HK.out.later hb)
  have HMk := Lib.hid (HM.out.later hb)
  have HRk := Lib.hid (HR.out.later hb)
  clear HS HK HM HR
  have HS := HSk
  clear HSk
  have HK := HKk
  clear HKk
  have HM := HMk
  clear HMk
  have HR := HRk
  clear HRk
  have hB1 := Below.go hB0 hb
  clear hB0 hb
  have hB0 := hB1
  clear hB1
  have oS := HS.out
  have S14 := oS.at 14 _ rfl
  have Sf14 := oS.ok 14 (by simp)
  have Sl := oS.lt
  clear oS
  go_wp2_with (fail)
  clear S14 Sf14 Sl
  change Code.rounds _ _ _ _ _ (w1.setCells S 14 [.int .u32 m1])
  have HSn : Hid (Own S ([.int .u32 1634760805, .int .u32 857760878, .int .u32 2036477234, .int .u32 1797285236, .int .u32 k0, .int .u32 k1, .int .u32 k2, .int .u32 k3, .int .u32 k4, .int .u32 k5, .int .u32 k6, .int .u32 k7, .int .u32 c, .int .u32 m0, .int .u32 m1, .int .u32 0]) (w1.setCells S 14 [.int .u32 m1])) := Lib.hid (show Own S (over _ 14 [.int .u32 m1]) _ from Own.part HS.out (by simp))
  have HKn : Hid (Own K (nums .u8 kf 32) (w1.setCells S 14 [.int .u32 m1])) := Lib.hid (Own.far (o := 14) (vs := [.int .u32 m1]) HK.out nKS)
  have HMn : Hid (Own M (nums .u8 nf 12) (w1.setCells S 14 [.int .u32 m1])) := Lib.hid (Own.far (o := 14) (vs := [.int .u32 m1]) HM.out nMS)
  have HRn : Hid (Own R ([.int .u32 0, .int .u32 0, .int .u32 0, .int .u32 0, .int .u32 0, .int .u32 0, .int .u32 0, .int .u32 0, .int .u32 0, .int .u32 0, .int .u32 0, .int .u32 0, .int .u32 0, .int .u32 0, .int .u32 0, .int .u32 0]) (w1.setCells S 14 [.int .u32 m1])) := Lib.hid (Own.far (o := 14) (vs := [.int .u32 m1]) HR.out nRS)
  have hB0n : Below w.heap.size w (w1.setCells S 14 [.int .u32 m1]) := Below.setCells hB0 Sw [.int .u32 m1] 14
  clear HS HK HM HR hB0
  generalize (w1.setCells S 14 [.int .u32 m1]) = w2 at *
  have HS := HSn
  clear HSn
  have HK := HKn
  clear HKn
  have HM := HMn
  clear HMn
  have HR := HRn
  clear HRn
  have hB0 := hB0n
  clear hB0n
  rw [rounds_succ]
  go_wp2_with (fail)
  go_at_call 15
  refine (RNumber_own M 8 _ _ 12 nf FN.out (by decide) (by decide) _ HM.out).mono ?_
  rintro e w1 ⟨rfl, hb⟩
  rw [em2]
  have HSk := Lib.hid (HS.out.later hb)
  have HKk := Lib.hid (HK.out.later hb)
  have HMk := Lib.hid (HM.out.later hb)
  have HRk := Lib.hid (HR.out.later hb)
  clear HS HK HM HR
  have HS := HSk
  clear HSk
  have HK := HKk
  clear HKk
  have HM := HMk
  clear HMk
  have HR := HRk
  clear HRk
  have hB1 := Below.go hB0 hb
  clear hB0 hb
  have hB0 := hB1
  clear hB1
  have oS := HS.out
  have S15 := oS.at 15 _ rfl
  have Sf15 := oS.ok 15 (by simp)
  have Sl := oS.lt
  clear oS
  go_wp2_with (fail)
  clear S15 Sf15 Sl
  change Code.rounds _ _ _ _ _ (w1.setCells S 15 [.int .u32 m2])
  have HSn : Hid (Own S ([.int .u32 1634760805, .int .u32 857760878, .int .u32 2036477234, .int .u32 1797285236, .int .u32 k0, .int .u32 k1, .int .u32 k2, .int .u32 k3, .int .u32 k4, .int .u32 k5, .int .u32 k6, .int .u32 k7, .int .u32 c, .int .u32 m0, .int .u32 m1, .int .u32 m2]) (w1.setCells S 15 [.int .u32 m2])) := Lib.hid (show Own S (over _ 15 [.int .u32 m2]) _ from Own.part HS.out (by simp))
  have HKn : Hid (Own K (nums .u8 kf 32) (w1.setCells S 15 [.int .u32 m2])) := Lib.hid (Own.far (o := 15) (vs := [.int .u32 m2]) HK.out nKS)
  have HMn : Hid (Own M (nums .u8 nf 12) (w1.setCells S 15 [.int .u32 m2])) := Lib.hid (Own.far (o := 15) (vs := [.int .u32 m2]) HM.out nMS)
  have HRn : Hid (Own R ([.int .u32 0, .int .u32 0, .int .u32 0, .int .u32 0, .int .u32 0, .int .u32 0, .int .u32 0, .int .u32 0, .int .u32 0, .int .u32 0, .int .u32 0, .int .u32 0, .int .u32 0, .int .u32 0, .int .u32 0, .int .u32 0]) (w1.setCells S 15 [.int .u32 m2])) := Lib.hid (Own.far (o := 15) (vs := [.int .u32 m2]) HR.out nRS)
  have hB0n : Below w.heap.size w (w1.setCells S 15 [.int .u32 m2]) := Below.setCells hB0 Sw [.int .u32 m2] 15
  clear HS HK HM HR hB0
  generalize (w1.setCells S 15 [.int .u32 m2]) = w2 at *
  have HS := HSn
  clear HSn
  have HK := HKn
  clear HKn
  have HM := HMn
  clear HMn
  have HR := HRn
  clear HRn
  have hB0 := hB0n
  clear hB0n
  rw [rounds_succ]
  go_upto_region 16 with fail
  refine wp_region_lit ?_
  refine wpList_load_mid rfl 56 _ rfl S 0 rfl ([.int .u32 1634760805, .int .u32 857760878, .int .u32 2036477234, .int .u32 1797285236, .int .u32 k0, .int .u32 k1, .int .u32 k2, .int .u32 k3, .int .u32 k4, .int .u32 k5, .int .u32 k6, .int .u32 k7, .int .u32 c, .int .u32 m0, .int .u32 m1, .int .u32 m2]) _ HS.out.cell Tryd.underlying56 rfl (by kernel_rfl) ?_
  refine wpList_store_mid rfl 56 _ _ rfl R 0 ([.int .u32 1634760805, .int .u32 857760878, .int .u32 2036477234, .int .u32 1797285236, .int .u32 k0, .int .u32 k1, .int .u32 k2, .int .u32 k3, .int .u32 k4, .int .u32 k5, .int .u32 k6, .int .u32 k7, .int .u32 c, .int .u32 m0, .int .u32 m1, .int .u32 m2]).toArray rfl rfl HR.out.free (by kernel_rfl) (by simp [Value.oneCell']) ?_
  change wpList _ _ _ [] _ (w2.setCells R 0 [.int .u32 1634760805, .int .u32 857760878, .int .u32 2036477234, .int .u32 1797285236, .int .u32 k0, .int .u32 k1, .int .u32 k2, .int .u32 k3, .int .u32 k4, .int .u32 k5, .int .u32 k6, .int .u32 k7, .int .u32 c, .int .u32 m0, .int .u32 m1, .int .u32 m2])
  have HRn : Hid (Own R ([.int .u32 1634760805, .int .u32 857760878, .int .u32 2036477234, .int .u32 1797285236, .int .u32 k0, .int .u32 k1, .int .u32 k2, .int .u32 k3, .int .u32 k4, .int .u32 k5, .int .u32 k6, .int .u32 k7, .int .u32 c, .int .u32 m0, .int .u32 m1, .int .u32 m2]) (w2.setCells R 0 [.int .u32 1634760805, .int .u32 857760878, .int .u32 2036477234, .int .u32 1797285236, .int .u32 k0, .int .u32 k1, .int .u32 k2, .int .u32 k3, .int .u32 k4, .int .u32 k5, .int .u32 k6, .int .u32 k7, .int .u32 c, .int .u32 m0, .int .u32 m1, .int .u32 m2])) := Lib.hid (Own.store HR.out rfl)
  have HSn : Hid (Own S ([.int .u32 1634760805, .int .u32 857760878, .int .u32 2036477234, .int .u32 1797285236, .int .u32 k0, .int .u32 k1, .int .u32 k2, .int .u32 k3, .int .u32 k4, .int .u32 k5, .int .u32 k6, .int .u32 k7, .int .u32 c, .int .u32 m0, .int .u32 m1, .int .u32 m2]) (w2.setCells R 0 [.int .u32 1634760805, .int .u32 857760878, .int .u32 2036477234, .int .u32 1797285236, .int .u32 k0, .int .u32 k1, .int .u32 k2, .int .u32 k3, .int .u32 k4, .int .u32 k5, .int .u32 k6, .int .u32 k7, .int .u32 c, .int .u32 m0, .int .u32 m1, .int .u32 m2])) := Lib.hid (Own.far (o := 0) (vs := [.int .u32 1634760805, .int .u32 857760878, .int .u32 2036477234, .int .u32 1797285236, .int .u32 k0, .int .u32 k1, .int .u32 k2, .int .u32 k3, .int .u32 k4, .int .u32 k5, .int .u32 k6, .int .u32 k7, .int .u32 c, .int .u32 m0, .int .u32 m1, .int .u32 m2]) HS.out nSR)
  have HKn : Hid (Own K (nums .u8 kf 32) (w2.setCells R 0 [.int .u32 1634760805, .int .u32 857760878, .int .u32 2036477234, .int .u32 1797285236, .int .u32 k0, .int .u32 k1, .int .u32 k2, .int .u32 k3, .int .u32 k4, .int .u32 k5, .int .u32 k6, .int .u32 k7, .int .u32 c, .int .u32 m0, .int .u32 m1, .int .u32 m2])) := Lib.hid (Own.far (o := 0) (vs := [.int .u32 1634760805, .int .u32 857760878, .int .u32 2036477234, .int .u32 1797285236, .int .u32 k0, .int .u32 k1, .int .u32 k2, .int .u32 k3, .int .u32 k4, .int .u32 k5, .int .u32 k6, .int .u32 k7, .int .u32 c, .int .u32 m0, .int .u32 m1, .int .u32 m2]) HK.out nKR)
  have HMn : Hid (Own M (nums .u8 nf 12) (w2.setCells R 0 [.int .u32 1634760805, .int .u32 857760878, .int .u32 2036477234, .int .u32 1797285236, .int .u32 k0, .int .u32 k1, .int .u32 k2, .int .u32 k3, .int .u32 k4, .int .u32 k5, .int .u32 k6, .int .u32 k7, .int .u32 c, .int .u32 m0, .int .u32 m1, .int .u32 m2])) := Lib.hid (Own.far (o := 0) (vs := [.int .u32 1634760805, .int .u32 857760878, .int .u32 2036477234, .int .u32 1797285236, .int .u32 k0, .int .u32 k1, .int .u32 k2, .int .u32 k3, .int .u32 k4, .int .u32 k5, .int .u32 k6, .int .u32 k7, .int .u32 c, .int .u32 m0, .int .u32 m1, .int .u32 m2]) HM.out nMR)
  have hB0n : Below w.heap.size w (w2.setCells R 0 [.int .u32 1634760805, .int .u32 857760878, .int .u32 2036477234, .int .u32 1797285236, .int .u32 k0, .int .u32 k1, .int .u32 k2, .int .u32 k3, .int .u32 k4, .int .u32 k5, .int .u32 k6, .int .u32 k7, .int .u32 c, .int .u32 m0, .int .u32 m1, .int .u32 m2]) := Below.setCells hB0 Rw [.int .u32 1634760805, .int .u32 857760878, .int .u32 2036477234, .int .u32 1797285236, .int .u32 k0, .int .u32 k1, .int .u32 k2, .int .u32 k3, .int .u32 k4, .int .u32 k5, .int .u32 k6, .int .u32 k7, .int .u32 c, .int .u32 m0, .int .u32 m1, .int .u32 m2] 0
  clear HR HS HK HM hB0
  generalize (w2.setCells R 0 [.int .u32 1634760805, .int .u32 857760878, .int .u32 2036477234, .int .u32 1797285236, .int .u32 k0, .int .u32 k1, .int .u32 k2, .int .u32 k3, .int .u32 k4, .int .u32 k5, .int .u32 k6, .int .u32 k7, .int .u32 c, .int .u32 m0, .int .u32 m1, .int .u32 m2]) = w3 at *
  have HR := HRn
  clear HRn
  have HS := HSn
  clear HSn
  have HK := HKn
  clear HKn
  have HM := HMn
  clear HMn
  have hB0 := hB0n
  clear hB0n
  go_wp2_with (fail)
  have hL := run_loadVar_mid (P := Tryd.prog) _ R 0 56 ([.int .u32 1634760805, .int .u32 857760878, .int .u32 2036477234, .int .u32 1797285236, .int .u32 k0, .int .u32 k1, .int .u32 k2, .int .u32 k3, .int .u32 k4, .int .u32 k5, .int .u32 k6, .int .u32 k7, .int .u32 c, .int .u32 m0, .int .u32 m1, .int .u32 m2]) _ HR.out.cell Tryd.underlying56 rfl (by kernel_rfl)
  exact bodyPost_ret (v := .agg ([.int .u32 1634760805, .int .u32 857760878, .int .u32 2036477234, .int .u32 1797285236, .int .u32 k0, .int .u32 k1, .int .u32 k2, .int .u32 k3, .int .u32 k4, .int .u32 k5, .int .u32 k6, .int .u32 k7, .int .u32 c, .int .u32 m0, .int .u32 m1, .int .u32 m2]).toArray) (res_cell Tryd.results23 rfl hL) rfl ⟨rfl, hB0⟩
end Go.Proofs.YtbepgbpmgiihbaaDoor
