/- aead.Open. -/
import Derived.Test.YtjkeaiihjbcfgaaDoorYEF
import Derived.Test.YtjkeaiihjbcfgaaDoorYQC
import Derived.Lib.Hide
import Derived.Deep.Onto
import Derived.Laws.OwnMore
namespace Go.Proofs.YtjkeaiihjbcfgaaDoor
set_option linter.unusedVariables false
set_option maxRecDepth 2000
set_option linter.unusedSimpArgs false
open Go.RowKit
attribute [local go_sem] nums_length st16b
attribute [local go_sem ↓ high] sliced_head sliced_one

set_option maxHeartbeats 4000000 in
theorem Open_short (kf nf : Nat → Int) (p q : Option Addr) (n N c d : Nat) (hN : N < 16) (w : World) :
    Calls Tryd.prog 18 #[(.agg (nums .u8 kf 32).toArray), (.agg (nums .u8 nf 12).toArray), .slice p n c, .slice q N d] w fun e w' => e = .returned (.tuple #[.slice none 0 0, .int .i64 4]) ∧ Below w.heap.size w w' := by
  have g1 : decide ((N : Int) < 16) = true := by simp; omega
  have g2 : decide (N < 16) = true := by simp; omega
  have g3 : (N : Int) < 16 := by omega
  go_enter Tryd.func18, Tryd.ntmps18
  go_upto_region 1 with fail
  obtain ⟨W0, hW⟩ : ∃ W0, W0 = ((w.alloc (.cells (nums .u8 kf 32).toArray 22)).alloc (.cells (nums .u8 nf 12).toArray 23)) := ⟨_, rfl⟩
  have hB0 : Below w.heap.size w W0 := hW ▸ (Below.al (Below.al (Below.refl _ _)))
  have HY : Hid (Own w.heap.size (nums .u8 kf 32) W0) := Lib.hid (hW ▸ (show Own w.heap.size (nums .u8 kf 32) (w.alloc (.cells (nums .u8 kf 32).toArray 22)) from Own.newAt (by simp)).alloc)
  have HM_ : Hid (Own (w.heap.size + 1) (nums .u8 nf 12) W0) := Lib.hid (hW ▸ (show Own (w.heap.size + 1) (nums .u8 nf 12) ((w.alloc (.cells (nums .u8 kf 32).toArray 22)).alloc (.cells (nums .u8 nf 12).toArray 23)) from Own.newAt (by simp)))
  rw [← hW]
  clear hW
  obtain ⟨M, eM⟩ : ∃ X, X = (w.heap.size + 1) := ⟨_, rfl⟩
  rw [← eM] at HM_ ⊢
  have Mw : w.heap.size ≤ M := by omega
  obtain ⟨Y, eY⟩ : ∃ X, X = w.heap.size := ⟨_, rfl⟩
  rw [← eY] at HY ⊢
  have Yw : w.heap.size ≤ Y := by omega
  have nYM : Y ≠ M := by omega
  have nMY : M ≠ Y := by omega
  clear eY eM
  go_wp2_with (fail)
  exact bodyPost_ret (v := .tuple #[.slice none 0 0, .int .i64 4]) (by simp [results, Tryd.results18, go_sem]) rfl ⟨rfl, hB0⟩
theorem slq_some (b off m d : Nat) (h : ¬ d = m) : slq (some ⟨b, off, none⟩) m d = some ⟨b, off + m, none⟩ := by
  unfold slq
  rw [if_neg h]
  simp [Addr.add]

set_option maxHeartbeats 4000000 in
theorem Open_core (kf nf f sg : Nat → Int) (p : Option Addr) (qb qo n m N c dc : Nat) (eN : N = m + 16) (z : Bool) (ez : eqB (fun j => sg (m + j)) (macF kf nf f n sg m) 16 = z) (hk : ∀ i, i < 32 → inB (kf i)) (hn : ∀ i, i < 12 → inB (nf i)) (hf : ∀ i, i < n → inB (f i)) (hs : ∀ i, i < N → inB (sg i)) (hn4 : n ≤ 16384) (hm4 : m ≤ 16384)
    (hnc : n ≤ c) (hmd : N ≤ dc) (hc : c ≤ 9223372036854775807) (hd : dc ≤ 9223372036854775807) (w : World) (hG : Has 0 0 GL w) (hp : Byt w p n f) (hq : Has qb qo (nums .u8 sg N) w) :
    Calls Tryd.prog 18 #[(.agg (nums .u8 kf 32).toArray), (.agg (nums .u8 nf 12).toArray), .slice p n c, .slice (some ⟨qb, qo, none⟩) N dc] w fun e w' => (if z = true then ∃ v, e = .returned (.tuple #[v, .int .i64 0]) ∧ w'.ownsRow w.heap.size 5 1 v m (nums .u8 (encF kf nf sg) m) else e = .returned (.tuple #[.slice none 0 0, .int .i64 6])) ∧ Below w.heap.size w w' := by
  have FK := Lib.hid hk; have FN := Lib.hid hn
  have LG := Lib.hid (fun w => long_any p (some ⟨qb, qo, none⟩) n m c dc hn4 hm4 w)
  have MC := Lib.hid (fun w hG hp hs' => Mac_any kf nf f sg p (some ⟨qb, qo, none⟩) n m c dc hk hn hf (fun i hi => hs i (by omega)) hn4 hm4 hnc (by omega) hc hd w hG hp hs')
  have SM := Lib.hid (fun w => Same_any_ (fun j => sg (m + j)) (macF kf nf f n sg m) (fun i hi => hs _ (by omega)) (fun i _ => in_macF _ _ _ _ _ _ _) w)
  have XO := Lib.hid (fun S w hG h hr => Xor_own kf nf S m (.slice (some ⟨qb, qo, none⟩) m dc) sg (by omega) hk hn w hG h hr)
  rw [ez] at SM
  have HN := Lib.hid eN; have HM := Lib.hid hm4; have HMD := Lib.hid hmd; have HD := Lib.hid hd
  have HG := Lib.hid hG; have HP := Lib.hid hp; have HQ := Lib.hid (has_take hq (show m ≤ N by omega)); have HT := Lib.hid (has_drop hq (show m + 16 ≤ N by omega))
  have sl := slq_some qb qo m dc (by omega)
  have g1 : decide ((N : Int) < 16) = false := by simp; omega
  have g2 : decide (N < 16) = false := by simp; omega
  have n1 : (N : Int) - 16 = (m : Int) := by omega
  have n2 : IntKind.i64.wrap (m : Int) = (m : Int) := IntWalk.i64_in _ (by omega)
  have n3 : N - m = 16 := by omega
  have n4 : (0 : Int) ≤ (m : Int) := by omega
  have n5 : (m : Int) ≤ (N : Int) := by omega
  have n6 : (m : Int) ≤ (dc : Int) := by omega
  have n7 : (N : Int) ≤ (dc : Int) := by omega
  have n8 : ¬ (dc = m) := by omega
  clear hk hn hf hs hn4 hm4 hnc hmd hc hd hG hp hq ez eN
  go_enter Tryd.func18, Tryd.ntmps18
  go_upto_region 4 with fail
  obtain ⟨W0, hW⟩ : ∃ W0, W0 = ((w.alloc (.cells (nums .u8 kf 32).toArray 22)).alloc (.cells (nums .u8 nf 12).toArray 23)) := ⟨_, rfl⟩
  have hB0 : Below w.heap.size w W0 := hW ▸ (Below.al (Below.al (Below.refl _ _)))
  have HY : Hid (Own w.heap.size (nums .u8 kf 32) W0) := Lib.hid (hW ▸ (show Own w.heap.size (nums .u8 kf 32) (w.alloc (.cells (nums .u8 kf 32).toArray 22)) from Own.newAt (by simp)).alloc)
  have HM_ : Hid (Own (w.heap.size + 1) (nums .u8 nf 12) W0) := Lib.hid (hW ▸ (show Own (w.heap.size + 1) (nums .u8 nf 12) ((w.alloc (.cells (nums .u8 kf 32).toArray 22)).alloc (.cells (nums .u8 nf 12).toArray 23)) from Own.newAt (by simp)))
  rw [← hW]
  clear hW
  obtain ⟨M, eM⟩ : ∃ X, X = (w.heap.size + 1) := ⟨_, rfl⟩
  rw [← eM] at HM_ ⊢
  have Mw : w.heap.size ≤ M := by omega
  obtain ⟨Y, eY⟩ : ∃ X, X = w.heap.size := ⟨_, rfl⟩
  rw [← eY] at HY ⊢
  have Yw : w.heap.size ≤ Y := by omega
  have nYM : Y ≠ M := by omega
  have nMY : M ≠ Y := by omega
  clear eY eM
  have HGk := Lib.hid (HG.out.later hB0); have HPk := Lib.hid (HP.out.later hB0); have HQk := Lib.hid (HQ.out.later hB0); have HTk := Lib.hid (HT.out.later hB0)
  clear HG HP HQ HT
  have HG := HGk; have HP := HPk; have HQ := HQk; have HT := HTk
  clear HGk HPk HQk HTk
  refine wp_region_fun 11 (by kernel_rfl) (by kernel_rfl) rfl (fun s b => ⟨#[.agg (nums .u8 kf 32).toArray, .agg (nums .u8 nf 12).toArray, .slice p n c, .slice (some ⟨qb, qo, none⟩) N dc, .pointer (some ⟨Y, 0, none⟩), .pointer (some ⟨M, 0, none⟩), undef, undef, .slice none 0 0, .int .i64 0, .int .i64 m, s 11, s 12, .slice (some ⟨qb, qo, none⟩) N dc, .int .i64 N, .bool false, .slice (some ⟨qb, qo, none⟩) N dc, .int .i64 N, .int .i64 m, s 19, s 20, s 21, s 22, s 23, s 24, s 25, s 26, undef, undef, undef, undef, undef, undef, undef, undef, undef, undef, undef, undef, undef, undef, undef, undef], []⟩) (fun d s b w => (Below W0.heap.size W0 w) ∧ (d 0 = true → s 19 = .slice (some ⟨qb, qo, none⟩) N dc) ∧ (d 1 = true → s 20 = .int .i64 m) ∧ (d 2 = true → s 21 = .slice (some ⟨qb, qo, none⟩) m dc) ∧ (d 3 = true → s 22 = .slice (some ⟨qb, qo, none⟩) N dc) ∧ (d 4 = true → s 23 = .int .i64 m) ∧ (d 5 = true → s 24 = .slice (some ⟨qb, qo + m, none⟩) 16 (dc - m)) ∧ (d 6 = true → s 25 = .pointer (some ⟨qb, qo + m, none⟩)) ∧ (d 7 = true → s 26 = .agg (nums .u8 (fun j => sg (m + j)) 16).toArray) ∧ (d 8 = true → s 12 = .pointer (some ⟨(b 8), 0, none⟩) ∧ W0.heap.size ≤ b 8) ∧ (d 8 = true → d 10 = false → Own (b 8) (nums .u8 (fun _ => 0) 16) w) ∧ (d 9 = true → s 11 = .slice (some ⟨qb, qo, none⟩) m dc) ∧ (d 10 = true → Own (b 8) (nums .u8 (fun j => sg (m + j)) 16) w) ∧ (d 10 = true → d 8 = true)) rfl ?h0y1 (?sty1 : StepsF _ _ _ _ 11 _ _ [0, 1, 2, 3, 4, 5, 6, 7, 8, 9, 10]) ?dny1
  case h0y1 => exact ⟨Below.drew (Below.refl _ _), (fun h => nomatch h), (fun h => nomatch h), (fun h => nomatch h), (fun h => nomatch h), (fun h => nomatch h), (fun h => nomatch h), (fun h => nomatch h), (fun h => nomatch h), (fun h => nomatch h), (fun h => nomatch h), (fun h => nomatch h), (fun h => nomatch h), (fun h => nomatch h)⟩
  case sty1 =>
    refine StepsF.cons (o := _) rfl (ws := []) (by kernel_rfl) (by decide) (fun d s b w hF hd hw K_ hK => ?_) ?_
    · have hB : Below W0.heap.size W0 w := (p0_ hF.out)
      dsimp only
      go_simp
      exact hK.out (ups s 19 (.slice (some ⟨qb, qo, none⟩) N dc)) b _ ⟨hB, (fun _ => rfl), (p2_ hF.out), (p3_ hF.out), (p4_ hF.out), (p5_ hF.out), (p6_ hF.out), (p7_ hF.out), (p8_ hF.out), (p9_ hF.out), (p10_ hF.out), (p11_ hF.out), (p12_ hF.out), (q13_ hF.out)⟩
    refine StepsF.cons (o := _) rfl (ws := []) (by kernel_rfl) (by decide) (fun d s b w hF hd hw K_ hK => ?_) ?_
    · have hB : Below W0.heap.size W0 w := (p0_ hF.out)
      dsimp only
      go_simp
      exact hK.out (ups s 20 (.int .i64 m)) b _ ⟨hB, (p1_ hF.out), (fun _ => rfl), (p3_ hF.out), (p4_ hF.out), (p5_ hF.out), (p6_ hF.out), (p7_ hF.out), (p8_ hF.out), (p9_ hF.out), (p10_ hF.out), (p11_ hF.out), (p12_ hF.out), (q13_ hF.out)⟩
    refine StepsF.cons (o := _) rfl (ws := [0, 1]) (by kernel_rfl) (by decide) (fun d s b w hF hd hw K_ hK => ?_) ?_
    · have hB : Below W0.heap.size W0 w := (p0_ hF.out)
      have e0 : s 19 = .slice (some ⟨qb, qo, none⟩) N dc := (p1_ hF.out) (hw 0 (by decide))
      have e1 : s 20 = .int .i64 m := (p2_ hF.out) (hw 1 (by decide))
      dsimp only
      go_simp
      exact hK.out (ups (ups (ups s 19 (.slice (some ⟨qb, qo, none⟩) N dc)) 20 (.int .i64 m)) 21 (.slice (some ⟨qb, qo, none⟩) m dc)) b _ ⟨hB, (fun _ => rfl), (fun _ => rfl), (fun _ => rfl), (p4_ hF.out), (p5_ hF.out), (p6_ hF.out), (p7_ hF.out), (p8_ hF.out), (p9_ hF.out), (p10_ hF.out), (p11_ hF.out), (p12_ hF.out), (q13_ hF.out)⟩
    refine StepsF.cons (o := _) rfl (ws := []) (by kernel_rfl) (by decide) (fun d s b w hF hd hw K_ hK => ?_) ?_
    · have hB : Below W0.heap.size W0 w := (p0_ hF.out)
      dsimp only
      go_simp
      exact hK.out (ups s 22 (.slice (some ⟨qb, qo, none⟩) N dc)) b _ ⟨hB, (p1_ hF.out), (p2_ hF.out), (p3_ hF.out), (fun _ => rfl), (p5_ hF.out), (p6_ hF.out), (p7_ hF.out), (p8_ hF.out), (p9_ hF.out), (p10_ hF.out), (p11_ hF.out), (p12_ hF.out), (q13_ hF.out)⟩
    refine StepsF.cons (o := _) rfl (ws := []) (by kernel_rfl) (by decide) (fun d s b w hF hd hw K_ hK => ?_) ?_
    · have hB : Below W0.heap.size W0 w := (p0_ hF.out)
      dsimp only
      go_simp
      exact hK.out (ups s 23 (.int .i64 m)) b _ ⟨hB, (p1_ hF.out), (p2_ hF.out), (p3_ hF.out), (p4_ hF.out), (fun _ => rfl), (p6_ hF.out), (p7_ hF.out), (p8_ hF.out), (p9_ hF.out), (p10_ hF.out), (p11_ hF.out), (p12_ hF.out), (q13_ hF.out)⟩
    refine StepsF.cons (o := _) rfl (ws := [3, 4]) (by kernel_rfl) (by decide) (fun d s b w hF hd hw K_ hK => ?_) ?_
    · have hB : Below W0.heap.size W0 w := (p0_ hF.out)
      have e3 : s 22 = .slice (some ⟨qb, qo, none⟩) N dc := (p4_ hF.out) (hw 3 (by decide))
      have e4 : s 23 = .int .i64 m := (p5_ hF.out) (hw 4 (by decide))
      dsimp only
      go_simp
      exact hK.out (ups (ups (ups s 22 (.slice (some ⟨qb, qo, none⟩) N dc)) 23 (.int .i64 m)) 24 (.slice (some ⟨qb, qo + m, none⟩) 16 (dc - m))) b _ ⟨hB, (p1_ hF.out), (p2_ hF.out), (p3_ hF.out), (fun _ => rfl), (fun _ => rfl), (fun _ => rfl), (p7_ hF.out), (p8_ hF.out), (p9_ hF.out), (p10_ hF.out), (p11_ hF.out), (p12_ hF.out), (q13_ hF.out)⟩
    refine StepsF.cons (o := _) rfl (ws := [5]) (by kernel_rfl) (by decide) (fun d s b w hF hd hw K_ hK => ?_) ?_
    · have hB : Below W0.heap.size W0 w := (p0_ hF.out)
      have e5 : s 24 = .slice (some ⟨qb, qo + m, none⟩) 16 (dc - m) := (p6_ hF.out) (hw 5 (by decide))
      dsimp only
      go_simp
      exact hK.out (ups (ups s 24 (.slice (some ⟨qb, qo + m, none⟩) 16 (dc - m))) 25 (.pointer (some ⟨qb, qo + m, none⟩))) b _ ⟨hB, (p1_ hF.out), (p2_ hF.out), (p3_ hF.out), (p4_ hF.out), (p5_ hF.out), (fun _ => rfl), (fun _ => rfl), (p8_ hF.out), (p9_ hF.out), (p10_ hF.out), (p11_ hF.out), (p12_ hF.out), (q13_ hF.out)⟩
    refine StepsF.cons (o := _) rfl (ws := [6]) (by kernel_rfl) (by decide) (fun d s b w hF hd hw K_ hK => ?_) ?_
    · have hB : Below W0.heap.size W0 w := (p0_ hF.out)
      have e6 : s 25 = .pointer (some ⟨qb, qo + m, none⟩) := (p7_ hF.out) (hw 6 (by decide))
      refine step_load (by simp [Region.wanted]) 29 _ rfl qb (qo + m) e6 (nums .u8 (fun j => sg (m + j)) 16) _ (HT.out.later hB).cell Tryd.underlying29 rfl (by kernel_rfl) ?_
      exact hK.out (ups s 26 (.agg (nums .u8 (fun j => sg (m + j)) 16).toArray)) b _ ⟨hB, (p1_ hF.out), (p2_ hF.out), (p3_ hF.out), (p4_ hF.out), (p5_ hF.out), (p6_ hF.out), (p7_ hF.out), (fun _ => rfl), (p9_ hF.out), (p10_ hF.out), (p11_ hF.out), (p12_ hF.out), (q13_ hF.out)⟩
    refine StepsF.cons (o := _) rfl (ws := []) (by kernel_rfl) (by decide) (fun d s b w hF hd hw K_ hK => ?_) ?_
    · have hB : Below W0.heap.size W0 w := (p0_ hF.out)
      dsimp only
      go_simp
      exact hK.out (ups s 12 (.pointer (some ⟨w.heap.size, 0, none⟩))) (ups b 8 w.heap.size) _ ⟨(hB.alloc hB.size _), (p1_ hF.out), (p2_ hF.out), (p3_ hF.out), (p4_ hF.out), (p5_ hF.out), (p6_ hF.out), (p7_ hF.out), (p8_ hF.out), (fun _ => ⟨rfl, hB.size⟩), (fun _ _ => Own.newAt rfl), (p11_ hF.out), (fun h => absurd ((q13_ hF.out) h) (by simp [hd])), (fun _ => rfl)⟩
    refine StepsF.cons (o := _) rfl (ws := [2, 0, 1, 2, 8]) (by kernel_rfl) (by decide) (fun d s b w hF hd hw K_ hK => ?_) ?_
    · have hB : Below W0.heap.size W0 w := (p0_ hF.out)
      have e0 : s 19 = .slice (some ⟨qb, qo, none⟩) N dc := (p1_ hF.out) (hw 0 (by decide))
      have e1 : s 20 = .int .i64 m := (p2_ hF.out) (hw 1 (by decide))
      have e2 : s 21 = .slice (some ⟨qb, qo, none⟩) m dc := (p3_ hF.out) (hw 2 (by decide))
      have e8 : s 12 = .pointer (some ⟨(b 8), 0, none⟩) := ((p9_ hF.out) (hw 8 (by decide))).1
      have le8 : W0.heap.size ≤ b 8 := ((p9_ hF.out) (hw 8 (by decide))).2
      dsimp only
      go_simp
      exact hK.out (ups (ups (ups (ups (ups s 19 (.slice (some ⟨qb, qo, none⟩) N dc)) 20 (.int .i64 m)) 21 (.slice (some ⟨qb, qo, none⟩) m dc)) 12 (.pointer (some ⟨(b 8), 0, none⟩))) 11 (.slice (some ⟨qb, qo, none⟩) m dc)) b _ ⟨hB, (fun _ => rfl), (fun _ => rfl), (fun _ => rfl), (p4_ hF.out), (p5_ hF.out), (p6_ hF.out), (p7_ hF.out), (p8_ hF.out), (fun _ => ⟨rfl, le8⟩), (p10_ hF.out), (fun _ => rfl), (p12_ hF.out), (q13_ hF.out)⟩
    refine StepsF.cons (o := _) rfl (ws := [8, 7, 9, 0, 1, 2, 3, 4, 5, 6, 7, 8, 9]) (by kernel_rfl) (by decide) (fun d s b w hF hd hw K_ hK => ?_) ?_
    · have hB : Below W0.heap.size W0 w := (p0_ hF.out)
      have e0 : s 19 = .slice (some ⟨qb, qo, none⟩) N dc := (p1_ hF.out) (hw 0 (by decide))
      have e1 : s 20 = .int .i64 m := (p2_ hF.out) (hw 1 (by decide))
      have e2 : s 21 = .slice (some ⟨qb, qo, none⟩) m dc := (p3_ hF.out) (hw 2 (by decide))
      have e3 : s 22 = .slice (some ⟨qb, qo, none⟩) N dc := (p4_ hF.out) (hw 3 (by decide))
      have e4 : s 23 = .int .i64 m := (p5_ hF.out) (hw 4 (by decide))
      have e5 : s 24 = .slice (some ⟨qb, qo + m, none⟩) 16 (dc - m) := (p6_ hF.out) (hw 5 (by decide))
      have e6 : s 25 = .pointer (some ⟨qb, qo + m, none⟩) := (p7_ hF.out) (hw 6 (by decide))
      have e7 : s 26 = .agg (nums .u8 (fun j => sg (m + j)) 16).toArray := (p8_ hF.out) (hw 7 (by decide))
      have e8 : s 12 = .pointer (some ⟨(b 8), 0, none⟩) := ((p9_ hF.out) (hw 8 (by decide))).1
      have le8 : W0.heap.size ≤ b 8 := ((p9_ hF.out) (hw 8 (by decide))).2
      have e9 : s 11 = .slice (some ⟨qb, qo, none⟩) m dc := (p11_ hF.out) (hw 9 (by decide))
      dsimp only
      have o8 := (p10_ hF.out) (hw 8 (by decide)) hd
      have hst := store_nums (P := Tryd.prog) (n := 16) .u8 (fun j => sg (m + j)) o8 rfl
      go_simp
      exact hK.out (ups (ups (ups (ups (ups (ups (ups (ups (ups (ups s 19 (.slice (some ⟨qb, qo, none⟩) N dc)) 20 (.int .i64 m)) 21 (.slice (some ⟨qb, qo, none⟩) m dc)) 22 (.slice (some ⟨qb, qo, none⟩) N dc)) 23 (.int .i64 m)) 24 (.slice (some ⟨qb, qo + m, none⟩) 16 (dc - m))) 25 (.pointer (some ⟨qb, qo + m, none⟩))) 26 (.agg (nums .u8 (fun j => sg (m + j)) 16).toArray)) 12 (.pointer (some ⟨(b 8), 0, none⟩))) 11 (.slice (some ⟨qb, qo, none⟩) m dc)) b _ ⟨(Below.setCells hB le8 (nums .u8 (fun j => sg (m + j)) 16) 0), (fun _ => rfl), (fun _ => rfl), (fun _ => rfl), (fun _ => rfl), (fun _ => rfl), (fun _ => rfl), (fun _ => rfl), (fun _ => rfl), (fun _ => ⟨rfl, le8⟩), (fun _ h => nomatch h), (fun _ => rfl), (fun _ => Own.store (vs := (nums .u8 (fun j => sg (m + j)) 16)) o8 rfl), (fun _ => hw 8 (by decide))⟩
    exact StepsF.nil
  intro d s b y1 hF hall
  replace hF := Lib.hid hF
  have hB : Below W0.heap.size W0 y1 := (p0_ hF.out)
  try dsimp only
  have e0 : s 19 = .slice (some ⟨qb, qo, none⟩) N dc := (p1_ hF.out) (hall 0 (by decide))
  have e1 : s 20 = .int .i64 m := (p2_ hF.out) (hall 1 (by decide))
  have e2 : s 21 = .slice (some ⟨qb, qo, none⟩) m dc := (p3_ hF.out) (hall 2 (by decide))
  have e3 : s 22 = .slice (some ⟨qb, qo, none⟩) N dc := (p4_ hF.out) (hall 3 (by decide))
  have e4 : s 23 = .int .i64 m := (p5_ hF.out) (hall 4 (by decide))
  have e5 : s 24 = .slice (some ⟨qb, qo + m, none⟩) 16 (dc - m) := (p6_ hF.out) (hall 5 (by decide))
  have e6 : s 25 = .pointer (some ⟨qb, qo + m, none⟩) := (p7_ hF.out) (hall 6 (by decide))
  have e7 : s 26 = .agg (nums .u8 (fun j => sg (m + j)) 16).toArray := (p8_ hF.out) (hall 7 (by decide))
  have e8 : s 12 = .pointer (some ⟨(b 8), 0, none⟩) := ((p9_ hF.out) (hall 8 (by decide))).1
  have le8 : W0.heap.size ≤ b 8 := ((p9_ hF.out) (hall 8 (by decide))).2
  have e9 : s 11 = .slice (some ⟨qb, qo, none⟩) m dc := (p11_ hF.out) (hall 9 (by decide))
  have f10 := (p12_ hF.out) (hall 10 (by decide))
  rw [e0, e1, e2, e3, e4, e5, e6, e7, e8, e9]
  clear hall hF e0 e1 e2 e3 e4 e5 e6 e7 e8 e9
  obtain ⟨X, hz⟩ : ∃ x, x = b 8 := ⟨_, rfl⟩
  rw [← hz] at le8 f10 ⊢
  clear hz
  clear d s b
  have HX := Lib.hid f10
  clear f10 HT le8
  have HYk := Lib.hid (HY.out.later hB)
  have HM_k := Lib.hid (HM_.out.later hB)
  have HGk := Lib.hid (HG.out.later hB)
  have HPk := Lib.hid (HP.out.later hB)
  have HQk := Lib.hid (HQ.out.later hB)
  clear HY HM_ HG HP HQ
  have HY := HYk
  clear HYk
  have HM_ := HM_k
  clear HM_k
  have HG := HGk
  clear HGk
  have HP := HPk
  clear HPk
  have HQ := HQk
  clear HQk
  have hB1 := Below.go hB0 hB
  clear hB0 hB
  have hB0 := hB1
  clear hB1
  go_wp2_with (fail)
  go_at_call 29
  refine (LG.out _).mono ?_
  rintro e w2 ⟨rfl, hB⟩
  have HYk := Lib.hid (HY.out.later hB)
  have HM_k := Lib.hid (HM_.out.later hB)
  have HGk := Lib.hid (HG.out.later hB)
  have HPk := Lib.hid (HP.out.later hB)
  have HQk := Lib.hid (HQ.out.later hB)
  have HXk := Lib.hid (HX.out.later hB)
  clear HY HM_ HG HP HQ HX
  have HY := HYk
  clear HYk
  have HM_ := HM_k
  clear HM_k
  have HG := HGk
  clear HGk
  have HP := HPk
  clear HPk
  have HQ := HQk
  clear HQk
  have HX := HXk
  clear HXk
  have hB1 := Below.go hB0 hB
  clear hB0 hB
  have hB0 := hB1
  clear hB1
  go_upto_region 7 with fail
  refine wp_region_fun 8 (by kernel_rfl) (by kernel_rfl) rfl (fun s b => ⟨#[.agg (nums .u8 kf 32).toArray, .agg (nums .u8 nf 12).toArray, .slice p n c, .slice (some ⟨qb, qo, none⟩) N dc, .pointer (some ⟨Y, 0, none⟩), .pointer (some ⟨M, 0, none⟩), undef, undef, .slice none 0 0, .int .i64 0, .int .i64 m, .slice (some ⟨qb, qo, none⟩) m dc, .pointer (some ⟨X, 0, none⟩), .slice (some ⟨qb, qo, none⟩) N dc, .int .i64 N, .bool false, .slice (some ⟨qb, qo, none⟩) N dc, .int .i64 N, .int .i64 m, .slice (some ⟨qb, qo, none⟩) N dc, .int .i64 m, .slice (some ⟨qb, qo, none⟩) m dc, .slice (some ⟨qb, qo, none⟩) N dc, .int .i64 m, .slice (some ⟨qb, qo + m, none⟩) 16 (dc - m), .pointer (some ⟨qb, qo + m, none⟩), .agg (nums .u8 (fun j => sg (m + j)) 16).toArray, .slice p n c, .slice (some ⟨qb, qo, none⟩) m dc, .bool false, s 30, s 31, s 32, s 33, s 34, s 35, s 36, s 37, undef, undef, undef, undef, undef], []⟩) (fun d s b w => (Below w2.heap.size w2 w) ∧ (d 0 = true → s 30 = .agg (nums .u8 (fun j => sg (m + j)) 16).toArray) ∧ (d 1 = true → s 31 = .agg (nums .u8 kf 32).toArray) ∧ (d 2 = true → s 32 = .agg (nums .u8 nf 12).toArray) ∧ (d 3 = true → s 33 = .slice p n c) ∧ (d 4 = true → s 34 = .slice (some ⟨qb, qo, none⟩) m dc) ∧ (d 5 = true → s 35 = .agg (nums .u8 (macF kf nf f n sg m) 16).toArray) ∧ (d 6 = true → s 36 = .bool z) ∧ (d 7 = true → s 37 = .bool (!z))) rfl ?h0y2 (?sty2 : StepsF _ _ _ _ 8 _ _ [0, 1, 2, 3, 4, 5, 6, 7]) ?dny2
  case h0y2 => exact ⟨Below.drew (Below.refl _ _), (fun h => nomatch h), (fun h => nomatch h), (fun h => nomatch h), (fun h => nomatch h), (fun h => nomatch h), (fun h => nomatch h), (fun h => nomatch h), (fun h => nomatch h)⟩
  case sty2 =>
    refine StepsF.cons (o := _) rfl (ws := []) (by kernel_rfl) (by decide) (fun d s b w hF hd hw K_ hK => ?_) ?_
    · have hB : Below w2.heap.size w2 w := (p0_ hF.out)
      refine step_load (by simp [Region.wanted]) 29 _ rfl X 0 rfl (nums .u8 (fun j => sg (m + j)) 16) _ (HX.out.later hB).cell Tryd.underlying29 rfl (by kernel_rfl) ?_
      exact hK.out (ups s 30 (.agg (nums .u8 (fun j => sg (m + j)) 16).toArray)) b _ ⟨hB, (fun _ => rfl), (p2_ hF.out), (p3_ hF.out), (p4_ hF.out), (p5_ hF.out), (p6_ hF.out), (p7_ hF.out), (q8_ hF.out)⟩
    refine StepsF.cons (o := _) rfl (ws := []) (by kernel_rfl) (by decide) (fun d s b w hF hd hw K_ hK => ?_) ?_
    · have hB : Below w2.heap.size w2 w := (p0_ hF.out)
      refine step_load (by simp [Region.wanted]) 22 _ rfl Y 0 rfl (nums .u8 kf 32) _ (HY.out.later hB).cell Tryd.underlying22 rfl (by kernel_rfl) ?_
      exact hK.out (ups s 31 (.agg (nums .u8 kf 32).toArray)) b _ ⟨hB, (p1_ hF.out), (fun _ => rfl), (p3_ hF.out), (p4_ hF.out), (p5_ hF.out), (p6_ hF.out), (p7_ hF.out), (q8_ hF.out)⟩
    refine StepsF.cons (o := _) rfl (ws := []) (by kernel_rfl) (by decide) (fun d s b w hF hd hw K_ hK => ?_) ?_
    · have hB : Below w2.heap.size w2 w := (p0_ hF.out)
      refine step_load (by simp [Region.wanted]) 23 _ rfl M 0 rfl (nums .u8 nf 12) _ (HM_.out.later hB).cell Tryd.underlying23 rfl (by kernel_rfl) ?_
      exact hK.out (ups s 32 (.agg (nums .u8 nf 12).toArray)) b _ ⟨hB, (p1_ hF.out), (p2_ hF.out), (fun _ => rfl), (p4_ hF.out), (p5_ hF.out), (p6_ hF.out), (p7_ hF.out), (q8_ hF.out)⟩
    refine StepsF.cons (o := _) rfl (ws := []) (by kernel_rfl) (by decide) (fun d s b w hF hd hw K_ hK => ?_) ?_
    · have hB : Below w2.heap.size w2 w := (p0_ hF.out)
      dsimp only
      go_simp
      exact hK.out (ups s 33 (.slice p n c)) b _ ⟨hB, (p1_ hF.out), (p2_ hF.out), (p3_ hF.out), (fun _ => rfl), (p5_ hF.out), (p6_ hF.out), (p7_ hF.out), (q8_ hF.out)⟩
    refine StepsF.cons (o := _) rfl (ws := []) (by kernel_rfl) (by decide) (fun d s b w hF hd hw K_ hK => ?_) ?_
    · have hB : Below w2.heap.size w2 w := (p0_ hF.out)
      dsimp only
      go_simp
      exact hK.out (ups s 34 (.slice (some ⟨qb, qo, none⟩) m dc)) b _ ⟨hB, (p1_ hF.out), (p2_ hF.out), (p3_ hF.out), (p4_ hF.out), (fun _ => rfl), (p6_ hF.out), (p7_ hF.out), (q8_ hF.out)⟩
    refine StepsF.cons (o := _) rfl (ws := [1, 2, 3, 4]) (by kernel_rfl) (by decide) (fun d s b w hF hd hw K_ hK => ?_) ?_
    · have hB : Below w2.heap.size w2 w := (p0_ hF.out)
      have e1 : s 31 = .agg (nums .u8 kf 32).toArray := (p2_ hF.out) (hw 1 (by decide))
      have e2 : s 32 = .agg (nums .u8 nf 12).toArray := (p3_ hF.out) (hw 2 (by decide))
      have e3 : s 33 = .slice p n c := (p4_ hF.out) (hw 3 (by decide))
      have e4 : s 34 = .slice (some ⟨qb, qo, none⟩) m dc := (p5_ hF.out) (hw 4 (by decide))
      dsimp only
      go_simp
      go_at_call 12
      refine (MC.out _ (HG.out.later hB) (HP.out.later hB) (.inr ⟨qb, qo, rfl, HQ.out.later hB⟩)).mono ?_
      rintro e w1 ⟨rfl, hb⟩
      exact hK.out (ups (ups (ups (ups (ups s 31 (.agg (nums .u8 kf 32).toArray)) 32 (.agg (nums .u8 nf 12).toArray)) 33 (.slice p n c)) 34 (.slice (some ⟨qb, qo, none⟩) m dc)) 35 (.agg (nums .u8 (macF kf nf f n sg m) 16).toArray)) b _ ⟨(Below.go hB hb), (p1_ hF.out), (fun _ => rfl), (fun _ => rfl), (fun _ => rfl), (fun _ => rfl), (fun _ => rfl), (p7_ hF.out), (q8_ hF.out)⟩
    refine StepsF.cons (o := _) rfl (ws := [0, 5, 5]) (by kernel_rfl) (by decide) (fun d s b w hF hd hw K_ hK => ?_) ?_
    · have hB : Below w2.heap.size w2 w := (p0_ hF.out)
      have e0 : s 30 = .agg (nums .u8 (fun j => sg (m + j)) 16).toArray := (p1_ hF.out) (hw 0 (by decide))
      have e5 : s 35 = .agg (nums .u8 (macF kf nf f n sg m) 16).toArray := (p6_ hF.out) (hw 5 (by decide))
      dsimp only
      go_simp
      go_at_call 31
      refine (SM.out _).mono ?_
      rintro e w1 ⟨rfl, hb⟩
      exact hK.out (ups (ups (ups s 30 (.agg (nums .u8 (fun j => sg (m + j)) 16).toArray)) 35 (.agg (nums .u8 (macF kf nf f n sg m) 16).toArray)) 36 (.bool z)) b _ ⟨(Below.go hB hb), (fun _ => rfl), (p2_ hF.out), (p3_ hF.out), (p4_ hF.out), (p5_ hF.out), (fun _ => rfl), (fun _ => rfl), (q8_ hF.out)⟩
    refine StepsF.cons (o := _) rfl (ws := [6]) (by kernel_rfl) (by decide) (fun d s b w hF hd hw K_ hK => ?_) ?_
    · have hB : Below w2.heap.size w2 w := (p0_ hF.out)
      have e6 : s 36 = .bool z := (p7_ hF.out) (hw 6 (by decide))
      dsimp only
      go_simp
      exact hK.out (ups (ups s 36 (.bool z)) 37 (.bool (!z))) b _ ⟨hB, (p1_ hF.out), (p2_ hF.out), (p3_ hF.out), (p4_ hF.out), (p5_ hF.out), (p6_ hF.out), (fun _ => rfl), (fun _ => rfl)⟩
    exact StepsF.nil
  intro d s b y2 hF hall
  replace hF := Lib.hid hF
  have hB : Below w2.heap.size w2 y2 := (p0_ hF.out)
  try dsimp only
  have e0 : s 30 = .agg (nums .u8 (fun j => sg (m + j)) 16).toArray := (p1_ hF.out) (hall 0 (by decide))
  have e1 : s 31 = .agg (nums .u8 kf 32).toArray := (p2_ hF.out) (hall 1 (by decide))
  have e2 : s 32 = .agg (nums .u8 nf 12).toArray := (p3_ hF.out) (hall 2 (by decide))
  have e3 : s 33 = .slice p n c := (p4_ hF.out) (hall 3 (by decide))
  have e4 : s 34 = .slice (some ⟨qb, qo, none⟩) m dc := (p5_ hF.out) (hall 4 (by decide))
  have e5 : s 35 = .agg (nums .u8 (macF kf nf f n sg m) 16).toArray := (p6_ hF.out) (hall 5 (by decide))
  have e6 : s 36 = .bool z := (p7_ hF.out) (hall 6 (by decide))
  have e7 : s 37 = .bool (!z) := (q8_ hF.out) (hall 7 (by decide))
  rw [e0, e1, e2, e3, e4, e5, e6, e7]
  clear hall hF e0 e1 e2 e3 e4 e5 e6 e7
  clear d s b
  clear HX MC SM LG
  have HYk := Lib.hid (HY.out.later hB)
  have HM_k := Lib.hid (HM_.out.later hB)
  have HGk := Lib.hid (HG.out.later hB)
  have HPk := Lib.hid (HP.out.later hB)
  have HQk := Lib.hid (HQ.out.later hB)
  clear HY HM_ HG HP HQ
  have HY := HYk
  clear HYk
  have HM_ := HM_k
  clear HM_k
  have HG := HGk
  clear HGk
  have HP := HPk
  clear HPk
  have HQ := HQk
  clear HQk
  have hB1 := Below.go hB0 hB
  clear hB0 hB
  have hB0 := hB1
  clear hB1
  cases z with
  | false =>
    go_wp2_with (fail)
    exact bodyPost_ret (v := .tuple #[.slice none 0 0, .int .i64 6]) (by simp [results, Tryd.results18, go_sem]) rfl ⟨rfl, hB0⟩
  | true =>
    go_upto_region 9 with fail
    refine wp_region_lit ?_
    refine wpList_load_mid rfl 22 _ rfl Y 0 rfl (nums .u8 kf 32) _ HY.out.cell Tryd.underlying22 rfl (by kernel_rfl) ?_
    refine wpList_load_mid rfl 23 _ rfl M 0 rfl (nums .u8 nf 12) _ HM_.out.cell Tryd.underlying23 rfl (by kernel_rfl) ?_
    go_wp2_with (fail)
    obtain ⟨W2, hW⟩ : ∃ W, W = (y2.alloc (.cells #[.slice (some ⟨qb, qo, none⟩) m dc] 26)) := ⟨_, rfl⟩
    have HL : Hid (Own y2.heap.size [.slice (some ⟨qb, qo, none⟩) m dc] W2) := Lib.hid (hW ▸ Own.newAt rfl)
    have hb : Below y2.heap.size y2 W2 := hW ▸ Below.al (Below.refl _ _)
    rw [← hW]
    clear hW
    have HG2 := Lib.hid (HG.out.later hb)
    have HQ2 := Lib.hid (HQ.out.later hb)
    have hB1 := Below.go hB0 hb
    obtain ⟨L_, eL⟩ : ∃ X, X = y2.heap.size := ⟨_, rfl⟩
    rw [← eL] at HL ⊢
    clear eL hB0 hb HG HQ HP HY HM_
    go_at_call 22
    refine (XO.out L_ _ HG2.out HL.out ⟨some ⟨qb, qo, none⟩, dc, rfl, by have := HN.out; have := HMD.out; omega, HD.out, .inr ⟨qb, qo, rfl, HQ2.out⟩⟩).mono ?_
    rintro e w3 ⟨v3, rfl, hrow, hb⟩
    have ROW : Hid (w3.ownsRow w.heap.size 5 1 v3 m (nums .u8 (encF kf nf sg) m)) := Lib.hid (hrow.mono hB1.size)
    have hB2 := Below.go hB1 hb
    clear hrow hb hB1
    go_wp2_with (fail)
    exact bodyPost_ret (v := .tuple #[v3, .int .i64 0]) (by simp [results, Tryd.results18, go_sem]) rfl ⟨⟨_, rfl, ROW.out⟩, hB2⟩
end Go.Proofs.YtjkeaiihjbcfgaaDoor
