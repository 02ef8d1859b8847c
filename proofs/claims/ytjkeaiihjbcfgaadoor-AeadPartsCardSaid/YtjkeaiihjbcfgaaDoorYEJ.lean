/- umbraref08.Open. -/
import Derived.Test.YtjkeaiihjbcfgaaDoorYEI
import Derived.Lib.Hide
import Derived.Deep.Onto
import Derived.Laws.OwnMore
import Derived.Deep.QuietTactic
import Derived.LoopN
import Derived.LoopTactic
namespace Go.Proofs.YtjkeaiihjbcfgaaDoor
set_option linter.unusedVariables false
set_option maxRecDepth 2000
set_option linter.unusedSimpArgs false
open Go.RowKit
attribute [local go_sem] nums_length st16b
attribute [local go_sem ↓ high] sliced_head sliced_one

set_option maxHeartbeats 4000000 in
theorem ROpen_short (kf nf : Nat → Int) (p q : Option Addr) (n N c d : Nat) (hN : N < 16) (w : World) :
    Calls Tryd.prog 19 #[(.agg (nums .u8 kf 32).toArray), (.agg (nums .u8 nf 12).toArray), .slice p n c, .slice q N d] w fun e w' => e = .returned (.tuple #[.slice none 0 0, .int .i64 4]) ∧ Below w.heap.size w w' := by
  obtain ⟨x, ex⟩ : ∃ x : Int, (N : Int) - 16 = x := ⟨_, rfl⟩
  have x0 : x < 0 := by omega
  have xw : IntKind.i64.wrap x = x := IntWalk.i64_in _ (by omega)
  have xd : decide (x < 0) = true := by simp; omega
  go_enter Tryd.func19, Tryd.ntmps19
  go_upto_region 1 with fail
  obtain ⟨W0, hW⟩ : ∃ W0, W0 = ((w.alloc (.cells (nums .u8 kf 32).toArray 22)).alloc (.cells (nums .u8 nf 12).toArray 23)) := ⟨_, rfl⟩
  have hB0 : Below w.heap.size w W0 := hW ▸ (Below.al (Below.al (Below.refl _ _)))
  have HY : Hid (Own w.heap.size (nums .u8 kf 32) W0) := Lib.hid (hW ▸ (show Own w.heap.size (nums .u8 kf 32) (w.alloc (.cells (nums .u8 kf 32).toArray 22)) from Own.newAt (by simp)).alloc)
  have HM_ : Hid (Own (w.heap.size + 1) (nums .u8 nf 12) W0) := Lib.hid (hW ▸ (show Own (w.heap.size + 1) (nums .u8 nf 12) ((w.alloc (.cells (nums .u8 kf 32).toArray 22)).alloc (.cells (nums .u8 nf 12).toArray 23)) from Own.newAt (by simp)))
  rw [← hW]
  clear hW
  obtain ⟨M, eM⟩ : ∃ X, X = (w.heap.size + 1) := ⟨_, rfl⟩
  rw [← eM] at HM_ ⊢
  have Mw : w.heap.size ≤ M := by omega
  obtain ⟨Y, eY⟩ : ∃ X, X = w.heap.size := ⟨_, rfl⟩
  rw [← eY] at HY ⊢
  have Yw : w.heap.size ≤ Y := by omega
  have nYM : Y ≠ M := by omega
  have nMY : M ≠ Y := by omega
  clear eY eM
  go_wp2_with (fail)
  exact bodyPost_ret (v := .tuple #[.slice none 0 0, .int .i64 4]) (by simp [results, Tryd.results19, go_sem]) rfl ⟨rfl, hB0⟩

set_option maxHeartbeats 8000000 in
theorem ROpen_core (kf nf f sg : Nat → Int) (p : Option Addr) (qb qo n m N c dc : Nat) (eN : N = m + 16) (z : Bool) (ez : eqB (fun j => sg (m + j)) (macF kf nf f n sg m) 16 = z) (hk : ∀ i, i < 32 → inB (kf i)) (hn : ∀ i, i < 12 → inB (nf i)) (hf : ∀ i, i < n → inB (f i)) (hs : ∀ i, i < N → inB (sg i)) (hn4 : n ≤ 16384) (hm4 : m ≤ 16384)
    (hmd : N ≤ dc) (w : World) (hp : Byt w p n f) (hq : Has qb qo (nums .u8 sg N) w) :
    Calls Tryd.prog 19 #[(.agg (nums .u8 kf 32).toArray), (.agg (nums .u8 nf 12).toArray), .slice p n c, .slice (some ⟨qb, qo, none⟩) N dc] w fun e w' => (if z = true then ∃ v, e = .returned (.tuple #[v, .int .i64 0]) ∧ RowR w' v m (encF kf nf sg) else e = .returned (.tuple #[.slice none 0 0, .int .i64 6])) ∧ Below w.heap.size w w' := by
  have FK := Lib.hid hk; have FN := Lib.hid hn
  have MC := Lib.hid (fun w hp hs' => RMac_any kf nf f sg p (some ⟨qb, qo, none⟩) n m c dc hk hn hf (fun i hi => hs i (by omega)) hn4 hm4 w hp hs')
  have XO := Lib.hid (fun w hr => RXor_row kf nf (some ⟨qb, qo, none⟩) m dc sg (by omega) hk hn w hr)
  obtain ⟨T_, eT⟩ : ∃ x, macF kf nf f n sg m = x := ⟨_, rfl⟩
  rw [eT] at MC ez
  clear eT
  have HN := Lib.hid eN; have HM := Lib.hid hm4
  have HP := Lib.hid hp; have HQ := Lib.hid hq
  have HEZ := Lib.hid ez
  have n1 : (N : Int) - 16 = (m : Int) := by omega
  have n2 : IntKind.i64.wrap (m : Int) = (m : Int) := IntWalk.i64_in _ (by omega)
  have n4 : (0 : Int) ≤ (m : Int) := by omega
  have n5 : (m : Int) ≤ (N : Int) := by omega
  have n6 : (m : Int) ≤ (dc : Int) := by omega
  have n9 : decide ((m : Int) < 0) = false := by simp
  have g1 : decide (16384 < n) = false := by simp; omega
  have g2 : decide (16384 < m) = false := by simp; omega
  have g3 : decide ((16384 : Int) < (n : Int)) = false := by simp; omega
  have g4 : decide ((16384 : Int) < (m : Int)) = false := by simp; omega
  clear hk hn hf hs hn4 hm4 hmd hp hq ez eN
  go_enter Tryd.func19, Tryd.ntmps19
  go_upto_region 1 with fail
  obtain ⟨W0, hW⟩ : ∃ W0, W0 = ((w.alloc (.cells (nums .u8 kf 32).toArray 22)).alloc (.cells (nums .u8 nf 12).toArray 23)) := ⟨_, rfl⟩
  have hB0 : Below w.heap.size w W0 := hW ▸ (Below.al (Below.al (Below.refl _ _)))
  have HY : Hid (Own w.heap.size (nums .u8 kf 32) W0) := Lib.hid (hW ▸ (show Own w.heap.size (nums .u8 kf 32) (w.alloc (.cells (nums .u8 kf 32).toArray 22)) from Own.newAt (by simp)).alloc)
  have HM_ : Hid (Own (w.heap.size + 1) (nums .u8 nf 12) W0) := Lib.hid (hW ▸ (show Own (w.heap.size + 1) (nums .u8 nf 12) ((w.alloc (.cells (nums .u8 kf 32).toArray 22)).alloc (.cells (nums .u8 nf 12).toArray 23)) from Own.newAt (by simp)))
  rw [← hW]
  clear hW
  obtain ⟨M, eM⟩ : ∃ X, X = (w.heap.size + 1) := ⟨_, rfl⟩
  rw [← eM] at HM_ ⊢
  have Mw : w.heap.size ≤ M := by omega
  obtain ⟨Y, eY⟩ : ∃ X, X = w.heap.size := ⟨_, rfl⟩
  rw [← eY] at HY ⊢
  have Yw : w.heap.size ≤ Y := by omega
  have nYM : Y ≠ M := by omega
  have nMY : M ≠ Y := by omega
  clear eY eM
  have HPk := Lib.hid (HP.out.later hB0); have HQk := Lib.hid (HQ.out.later hB0)
  clear HP HQ
  have HP := HPk; have HQ := HQk
  clear HPk HQk
  go_upto_region 6 with fail
  refine wp_region_fun 9 (by kernel_rfl) (by kernel_rfl) rfl (fun s b => ⟨#[.agg (nums .u8 kf 32).toArray, .agg (nums .u8 nf 12).toArray, .slice p n c, .slice (some ⟨qb, qo, none⟩) N dc, .pointer (some ⟨Y, 0, none⟩), .pointer (some ⟨M, 0, none⟩), undef, undef, .slice none 0 0, .int .i64 0, .int .i64 m, s 11, undef, .slice (some ⟨qb, qo, none⟩) N dc, .int .i64 N, .int .i64 m, .int .i64 m, .bool false, .slice p n c, .int .i64 n, .bool false, .bool false, .int .i64 m, .bool false, .bool false, s 25, s 26, s 27, s 28, s 29, s 30, s 31, undef, undef, undef, undef, undef, undef, undef, undef, undef, undef, undef, undef, undef, undef, undef, undef, undef, undef, undef, undef], []⟩) (fun d s b w => (Below W0.heap.size W0 w) ∧ (d 0 = true → s 25 = .agg (nums .u8 kf 32).toArray) ∧ (d 1 = true → s 26 = .agg (nums .u8 nf 12).toArray) ∧ (d 2 = true → s 27 = .slice p n c) ∧ (d 3 = true → s 28 = .slice (some ⟨qb, qo, none⟩) N dc) ∧ (d 4 = true → s 29 = .int .i64 m) ∧ (d 5 = true → s 30 = .slice (some ⟨qb, qo, none⟩) m dc) ∧ (d 6 = true → s 31 = .agg (nums .u8 T_ 16).toArray) ∧ (d 7 = true → s 11 = .pointer (some ⟨(b 7), 0, none⟩) ∧ W0.heap.size ≤ b 7) ∧ (d 7 = true → d 8 = false → Own (b 7) (nums .u8 (fun _ => 0) 16) w) ∧ (d 8 = true → Own (b 7) (nums .u8 T_ 16) w) ∧ (d 8 = true → d 7 = true)) rfl ?h0y1 (?sty1 : StepsF _ _ _ _ 9 _ _ [0, 1, 2, 3, 4, 5, 6, 7, 8]) ?dny1
  case h0y1 => exact ⟨Below.drew (Below.refl _ _), (fun h => nomatch h), (fun h => nomatch h), (fun h => nomatch h), (fun h => nomatch h), (fun h => nomatch h), (fun h => nomatch h), (fun h => nomatch h), (fun h => nomatch h), (fun h => nomatch h), (fun h => nomatch h), (fun h => nomatch h)⟩
  case sty1 =>
    refine StepsF.cons (o := _) rfl (ws := []) (by kernel_rfl) (by decide) (fun d s b w hF hd hw K_ hK => ?_) ?_
    · have hB : Below W0.heap.size W0 w := (p0_ hF.out)
      refine step_load (by simp [Region.wanted]) 22 _ rfl Y 0 rfl (nums .u8 kf 32) _ (HY.out.later hB).cell Tryd.underlying22 rfl (by kernel_rfl) ?_
      exact hK.out (ups s 25 (.agg (nums .u8 kf 32).toArray)) b _ ⟨hB, (fun _ => rfl), (p2_ hF.out), (p3_ hF.out), (p4_ hF.out), (p5_ hF.out), (p6_ hF.out), (p7_ hF.out), (p8_ hF.out), (p9_ hF.out), (p10_ hF.out), (q11_ hF.out)⟩
    refine StepsF.cons (o := _) rfl (ws := []) (by kernel_rfl) (by decide) (fun d s b w hF hd hw K_ hK => ?_) ?_
    · have hB : Below W0.heap.size W0 w := (p0_ hF.out)
      refine step_load (by simp [Region.wanted]) 23 _ rfl M 0 rfl (nums .u8 nf 12) _ (HM_.out.later hB).cell Tryd.underlying23 rfl (by kernel_rfl) ?_
      exact hK.out (ups s 26 (.agg (nums .u8 nf 12).toArray)) b _ ⟨hB, (p1_ hF.out), (fun _ => rfl), (p3_ hF.out), (p4_ hF.out), (p5_ hF.out), (p6_ hF.out), (p7_ hF.out), (p8_ hF.out), (p9_ hF.out), (p10_ hF.out), (q11_ hF.out)⟩
    refine StepsF.cons (o := _) rfl (ws := []) (by kernel_rfl) (by decide) (fun d s b w hF hd hw K_ hK => ?_) ?_
    · have hB : Below W0.heap.size W0 w := (p0_ hF.out)
      dsimp only
      go_simp
      exact hK.out (ups s 27 (.slice p n c)) b _ ⟨hB, (p1_ hF.out), (p2_ hF.out), (fun _ => rfl), (p4_ hF.out), (p5_ hF.out), (p6_ hF.out), (p7_ hF.out), (p8_ hF.out), (p9_ hF.out), (p10_ hF.out), (q11_ hF.out)⟩
    refine StepsF.cons (o := _) rfl (ws := []) (by kernel_rfl) (by decide) (fun d s b w hF hd hw K_ hK => ?_) ?_
    · have hB : Below W0.heap.size W0 w := (p0_ hF.out)
      dsimp only
      go_simp
      exact hK.out (ups s 28 (.slice (some ⟨qb, qo, none⟩) N dc)) b _ ⟨hB, (p1_ hF.out), (p2_ hF.out), (p3_ hF.out), (fun _ => rfl), (p5_ hF.out), (p6_ hF.out), (p7_ hF.out), (p8_ hF.out), (p9_ hF.out), (p10_ hF.out), (q11_ hF.out)⟩
    refine StepsF.cons (o := _) rfl (ws := []) (by kernel_rfl) (by decide) (fun d s b w hF hd hw K_ hK => ?_) ?_
    · have hB : Below W0.heap.size W0 w := (p0_ hF.out)
      dsimp only
      go_simp
      exact hK.out (ups s 29 (.int .i64 m)) b _ ⟨hB, (p1_ hF.out), (p2_ hF.out), (p3_ hF.out), (p4_ hF.out), (fun _ => rfl), (p6_ hF.out), (p7_ hF.out), (p8_ hF.out), (p9_ hF.out), (p10_ hF.out), (q11_ hF.out)⟩
    refine StepsF.cons (o := _) rfl (ws := [3, 4]) (by kernel_rfl) (by decide) (fun d s b w hF hd hw K_ hK => ?_) ?_
    · have hB : Below W0.heap.size W0 w := (p0_ hF.out)
      have e3 : s 28 = .slice (some ⟨qb, qo, none⟩) N dc := (p4_ hF.out) (hw 3 (by decide))
      have e4 : s 29 = .int .i64 m := (p5_ hF.out) (hw 4 (by decide))
      dsimp only
      go_simp
      exact hK.out (ups (ups (ups s 28 (.slice (some ⟨qb, qo, none⟩) N dc)) 29 (.int .i64 m)) 30 (.slice (some ⟨qb, qo, none⟩) m dc)) b _ ⟨hB, (p1_ hF.out), (p2_ hF.out), (p3_ hF.out), (fun _ => rfl), (fun _ => rfl), (fun _ => rfl), (p7_ hF.out), (p8_ hF.out), (p9_ hF.out), (p10_ hF.out), (q11_ hF.out)⟩
    refine StepsF.cons (o := _) rfl (ws := [0, 1, 2, 5]) (by kernel_rfl) (by decide) (fun d s b w hF hd hw K_ hK => ?_) ?_
    · have hB : Below W0.heap.size W0 w := (p0_ hF.out)
      have e0 : s 25 = .agg (nums .u8 kf 32).toArray := (p1_ hF.out) (hw 0 (by decide))
      have e1 : s 26 = .agg (nums .u8 nf 12).toArray := (p2_ hF.out) (hw 1 (by decide))
      have e2 : s 27 = .slice p n c := (p3_ hF.out) (hw 2 (by decide))
      have e5 : s 30 = .slice (some ⟨qb, qo, none⟩) m dc := (p6_ hF.out) (hw 5 (by decide))
      dsimp only
      go_simp
      go_at_call 13
      refine (MC.out _ (HP.out.later hB) (.inr ⟨qb, qo, rfl, (has_take HQ.out (show m ≤ N by have := HN.out; omega)).later hB⟩)).mono ?_
      rintro e w1 ⟨rfl, hb⟩
      exact hK.out (ups (ups (ups (ups (ups s 25 (.agg (nums .u8 kf 32).toArray)) 26 (.agg (nums .u8 nf 12).toArray)) 27 (.slice p n c)) 30 (.slice (some ⟨qb, qo, none⟩) m dc)) 31 (.agg (nums .u8 T_ 16).toArray)) b _ ⟨(Below.go hB hb), (fun _ => rfl), (fun _ => rfl), (fun _ => rfl), (p4_ hF.out), (p5_ hF.out), (fun _ => rfl), (fun _ => rfl), (p8_ hF.out), (fun h0 h1 => ((p9_ hF.out) h0 h1).later hb), (fun h0 => ((p10_ hF.out) h0).later hb), (q11_ hF.out)⟩
    refine StepsF.cons (o := _) rfl (ws := []) (by kernel_rfl) (by decide) (fun d s b w hF hd hw K_ hK => ?_) ?_
    · have hB : Below W0.heap.size W0 w := (p0_ hF.out)
      dsimp only
      go_simp
      exact hK.out (ups s 11 (.pointer (some ⟨w.heap.size, 0, none⟩))) (ups b 7 w.heap.size) _ ⟨(hB.alloc hB.size _), (p1_ hF.out), (p2_ hF.out), (p3_ hF.out), (p4_ hF.out), (p5_ hF.out), (p6_ hF.out), (p7_ hF.out), (fun _ => ⟨rfl, hB.size⟩), (fun _ _ => Own.newAt rfl), (fun h => absurd ((q11_ hF.out) h) (by simp [hd])), (fun _ => rfl)⟩
    refine StepsF.cons (o := _) rfl (ws := [7, 6, 6, 0, 1, 2, 3, 4, 5, 6, 7]) (by kernel_rfl) (by decide) (fun d s b w hF hd hw K_ hK => ?_) ?_
    · have hB : Below W0.heap.size W0 w := (p0_ hF.out)
      have e0 : s 25 = .agg (nums .u8 kf 32).toArray := (p1_ hF.out) (hw 0 (by decide))
      have e1 : s 26 = .agg (nums .u8 nf 12).toArray := (p2_ hF.out) (hw 1 (by decide))
      have e2 : s 27 = .slice p n c := (p3_ hF.out) (hw 2 (by decide))
      have e3 : s 28 = .slice (some ⟨qb, qo, none⟩) N dc := (p4_ hF.out) (hw 3 (by decide))
      have e4 : s 29 = .int .i64 m := (p5_ hF.out) (hw 4 (by decide))
      have e5 : s 30 = .slice (some ⟨qb, qo, none⟩) m dc := (p6_ hF.out) (hw 5 (by decide))
      have e6 : s 31 = .agg (nums .u8 T_ 16).toArray := (p7_ hF.out) (hw 6 (by decide))
      have e7 : s 11 = .pointer (some ⟨(b 7), 0, none⟩) := ((p8_ hF.out) (hw 7 (by decide))).1
      have le7 : W0.heap.size ≤ b 7 := ((p8_ hF.out) (hw 7 (by decide))).2
      dsimp only
      have o7 := (p9_ hF.out) (hw 7 (by decide)) hd
      have hst := store_nums (P := Tryd.prog) (n := 16) .u8 (T_) o7 rfl
      go_simp
      exact hK.out (ups (ups (ups (ups (ups (ups (ups (ups s 25 (.agg (nums .u8 kf 32).toArray)) 26 (.agg (nums .u8 nf 12).toArray)) 27 (.slice p n c)) 28 (.slice (some ⟨qb, qo, none⟩) N dc)) 29 (.int .i64 m)) 30 (.slice (some ⟨qb, qo, none⟩) m dc)) 31 (.agg (nums .u8 T_ 16).toArray)) 11 (.pointer (some ⟨(b 7), 0, none⟩))) b _ ⟨(Below.setCells hB le7 (nums .u8 T_ 16) 0), (fun _ => rfl), (fun _ => rfl), (fun _ => rfl), (fun _ => rfl), (fun _ => rfl), (fun _ => rfl), (fun _ => rfl), (fun _ => ⟨rfl, le7⟩), (fun _ h => nomatch h), (fun _ => Own.store (vs := (nums .u8 T_ 16)) o7 rfl), (fun _ => hw 7 (by decide))⟩
    exact StepsF.nil
  intro d s b y1 hF hall
  replace hF := Lib.hid hF
  have hB : Below W0.heap.size W0 y1 := (p0_ hF.out)
  try dsimp only
  have e0 : s 25 = .agg (nums .u8 kf 32).toArray := (p1_ hF.out) (hall 0 (by decide))
  have e1 : s 26 = .agg (nums .u8 nf 12).toArray := (p2_ hF.out) (hall 1 (by decide))
  have e2 : s 27 = .slice p n c := (p3_ hF.out) (hall 2 (by decide))
  have e3 : s 28 = .slice (some ⟨qb, qo, none⟩) N dc := (p4_ hF.out) (hall 3 (by decide))
  have e4 : s 29 = .int .i64 m := (p5_ hF.out) (hall 4 (by decide))
  have e5 : s 30 = .slice (some ⟨qb, qo, none⟩) m dc := (p6_ hF.out) (hall 5 (by decide))
  have e6 : s 31 = .agg (nums .u8 T_ 16).toArray := (p7_ hF.out) (hall 6 (by decide))
  have e7 : s 11 = .pointer (some ⟨(b 7), 0, none⟩) := ((p8_ hF.out) (hall 7 (by decide))).1
  have le7 : W0.heap.size ≤ b 7 := ((p8_ hF.out) (hall 7 (by decide))).2
  have f8 := (p10_ hF.out) (hall 8 (by decide))
  rw [e0, e1, e2, e3, e4, e5, e6, e7]
  clear hall hF e0 e1 e2 e3 e4 e5 e6 e7
  obtain ⟨X, hz⟩ : ∃ x, x = b 7 := ⟨_, rfl⟩
  rw [← hz] at le7 f8 ⊢
  clear hz
  clear d s b
  have HX := Lib.hid f8
  clear f8 le7 MC
  have HYk := Lib.hid (HY.out.later hB)
  have HM_k := Lib.hid (HM_.out.later hB)
  have HPk := Lib.hid (HP.out.later hB)
  have HQk := Lib.hid (HQ.out.later hB)
  clear HY HM_ HP HQ
  have HY := HYk
  clear HYk
  have HM_ := HM_k
  clear HM_k
  have HP := HPk
  clear HPk
  have HQ := HQk
  clear HQk
  have hB1 := Below.go hB0 hB
  clear hB0 hB
  have hB0 := hB1
  clear hB1
  have HB := Lib.hid hB0
  clear hB0
  go_wp2_with (fail)
  go_loopw [12] (fun iv wr => ∃ (i : Nat), i ≤ 16 ∧ iv = .int .i64 i ∧ Hid (∀ j, j < i → sg (m + j) = T_ j) ∧ Hid (Below w.heap.size w wr) ∧ Hid (Own X (nums .u8 T_ 16) wr) ∧ Hid (Own Y (nums .u8 kf 32) wr) ∧ Hid (Own M (nums .u8 nf 12) wr) ∧ Hid (Has qb qo (nums .u8 sg N) wr)) (fun iv _ => (16 - (intOf iv).toNat))
  case atStart => exact ⟨0, by omega, rfl, Lib.hid (fun j hj => absurd hj (Nat.not_lt_zero j)), HB, HX, HY, HM_, HQ⟩
  case round =>
    clear HB HX HY HM_ HQ HP
    obtain ⟨i, hi, rfl, HE, HB, HX, HY, HM_, HQ⟩ := hrel
    by_cases hlt : i < 16
    · have y0 := HX.out.at i _ (nums_at _ _ hlt)
      have x0 := HQ.out.at (m + i) _ (nums_at _ _ (show m + i < N by have := HN.out; omega))
      have Xl := HX.out.lt
      have Ql := HQ.out.lt
      obtain ⟨x, ex⟩ : ∃ x, T_ i = x := ⟨_, rfl⟩
      obtain ⟨y, ey⟩ : ∃ y, sg (m + i) = y := ⟨_, rfl⟩
      rw [ex] at y0; rw [ey] at x0
      obtain ⟨t, et⟩ : ∃ t, m + i = t := ⟨_, rfl⟩
      have t0 : (m : Int) + (i : Int) = (t : Int) := by omega
      have t1 : IntKind.i64.wrap (t : Int) = (t : Int) := IntWalk.i64_in _ (by have := HM.out; omega)
      have t2 : (0 : Int) ≤ (t : Int) := by omega
      have t3 : (t : Int) < (N : Int) := by have := HN.out; omega
      have i0 : (0 : Int) ≤ (i : Int) := by omega
      have i1 : (i : Int) < 16 := by omega
      have wi : IntKind.i64.wrap ((i : Int) + 1) = (i : Int) + 1 := IntWalk.i64_in _ (by omega)
      rw [et] at x0
      by_cases hxy : x = y
      · have HE2 : Hid (∀ j, j < i + 1 → sg (m + j) = T_ j) := Lib.hid fun j hj => by
          by_cases e : j = i
          · subst e; rw [ex, ey, hxy]
          · exact HE.out j (by omega)
        subst hxy
        clear ex ey et HE hi
        go_upto_region 10 with fail
        go_quiet (fail)
        have hBq : Below wr.heap.size wr (wr.drewN nq) := below_drewN (Below.refl _ _) _
        have o1 := Lib.hid (HX.out.later hBq); have o2 := Lib.hid (HY.out.later hBq); have o3 := Lib.hid (HM_.out.later hBq); have o4 := Lib.hid (HQ.out.later hBq); have o5 := Lib.hid (Below.go HB.out hBq)
        clear HX HY HM_ HQ HB hBq
        go_wp2_with (fail)
        go_roundw
        case rel => (first | exact ⟨i + 1, by omega, by go_num, HE2, o5, o1, o2, o3, o4⟩ | ((repeat apply Exists.intro); exact ⟨⟨i + 1, by omega, by go_num, HE2, o5, o1, o2, o3, o4⟩, rfl⟩))
        case measure => simp [intOf]; omega
      · have hz : z = false := by
          cases z with
          | false => rfl
          | true =>
            have hh : sg (m + i) = T_ i := of_decide_eq_true HEZ.out i hlt
            rw [ey, ex] at hh
            exact absurd hh.symm hxy
        subst hz
        clear ex ey et HE hi HEZ
        go_upto_region 10 with fail
        go_quiet (fail)
        have hBq : Below w.heap.size w (wr.drewN nq) := Below.go HB.out (below_drewN (Below.refl _ _) _)
        go_wp2_with (fail)
        exact bodyPost_ret (v := .tuple #[.slice none 0 0, .int .i64 6]) (by simp [results, Tryd.results19, go_sem]) rfl ⟨rfl, hBq⟩
    · obtain rfl : i = 16 := by omega
      have hz : z = true := by rw [← HEZ.out]; exact eqB_congr HE.out
      subst hz
      clear HE HEZ hi hlt
      have HQ2 := Lib.hid (has_take HQ.out (show m ≤ N by have := HN.out; omega))
      go_upto_region 12 with fail
      refine wp_region_fun 8 (by kernel_rfl) (by kernel_rfl) rfl (fun s b => ⟨#[.agg (nums .u8 kf 32).toArray, .agg (nums .u8 nf 12).toArray, .slice p n c, .slice (some ⟨qb, qo, none⟩) N dc, .pointer (some ⟨Y, 0, none⟩), .pointer (some ⟨M, 0, none⟩), undef, undef, s 8, s 9, .int .i64 m, .pointer (some ⟨X, 0, none⟩), .int .i64 (16 : Nat), .slice (some ⟨qb, qo, none⟩) N dc, .int .i64 N, .int .i64 m, .int .i64 m, .bool false, .slice p n c, .int .i64 n, .bool false, .bool false, .int .i64 m, .bool false, .bool false, .agg (nums .u8 kf 32).toArray, .agg (nums .u8 nf 12).toArray, .slice p n c, .slice (some ⟨qb, qo, none⟩) N dc, .int .i64 m, .slice (some ⟨qb, qo, none⟩) m dc, .agg (nums .u8 T_ 16).toArray, .int .i64 (16 : Nat), .bool false, u34, u35, u36, u37, u38, u39, u40, u41, u42, u43, u44, u45, s 46, s 47, s 48, s 49, s 50, s 51], []⟩) (fun d s b w => (Below wr.heap.size wr w) ∧ (d 0 = true → s 46 = .agg (nums .u8 kf 32).toArray) ∧ (d 1 = true → s 47 = .agg (nums .u8 nf 12).toArray) ∧ (d 2 = true → s 48 = .slice (some ⟨qb, qo, none⟩) N dc) ∧ (d 3 = true → s 49 = .int .i64 m) ∧ (d 4 = true → s 50 = .slice (some ⟨qb, qo, none⟩) m dc) ∧ (d 5 = true → RowR w (s 51) m (encF kf nf sg)) ∧ (d 6 = true → s 8 = s 51) ∧ (d 7 = true → s 9 = .int .i64 0) ∧ (d 6 = true → d 5 = true)) rfl ?h0y3 (?sty3 : StepsF _ _ _ _ 8 _ _ [0, 1, 2, 3, 4, 5, 6, 7]) ?dny3
      case h0y3 => exact ⟨Below.drew (Below.refl _ _), (fun h => nomatch h), (fun h => nomatch h), (fun h => nomatch h), (fun h => nomatch h), (fun h => nomatch h), (fun h => nomatch h), (fun h => nomatch h), (fun h => nomatch h), (fun h => nomatch h)⟩
      case sty3 =>
        refine StepsF.cons (o := _) rfl (ws := []) (by kernel_rfl) (by decide) (fun d s b w hF hd hw K_ hK => ?_) ?_
        · have hB : Below wr.heap.size wr w := (p0_ hF.out)
          refine step_load (by simp [Region.wanted]) 22 _ rfl Y 0 rfl (nums .u8 kf 32) _ (HY.out.later hB).cell Tryd.underlying22 rfl (by kernel_rfl) ?_
          exact hK.out (ups s 46 (.agg (nums .u8 kf 32).toArray)) b _ ⟨hB, (fun _ => rfl), (p2_ hF.out), (p3_ hF.out), (p4_ hF.out), (p5_ hF.out), (p6_ hF.out), (p7_ hF.out), (p8_ hF.out), (q9_ hF.out)⟩
        refine StepsF.cons (o := _) rfl (ws := []) (by kernel_rfl) (by decide) (fun d s b w hF hd hw K_ hK => ?_) ?_
        · have hB : Below wr.heap.size wr w := (p0_ hF.out)
          refine step_load (by simp [Region.wanted]) 23 _ rfl M 0 rfl (nums .u8 nf 12) _ (HM_.out.later hB).cell Tryd.underlying23 rfl (by kernel_rfl) ?_
          exact hK.out (ups s 47 (.agg (nums .u8 nf 12).toArray)) b _ ⟨hB, (p1_ hF.out), (fun _ => rfl), (p3_ hF.out), (p4_ hF.out), (p5_ hF.out), (p6_ hF.out), (p7_ hF.out), (p8_ hF.out), (q9_ hF.out)⟩
        refine StepsF.cons (o := _) rfl (ws := []) (by kernel_rfl) (by decide) (fun d s b w hF hd hw K_ hK => ?_) ?_
        · have hB : Below wr.heap.size wr w := (p0_ hF.out)
          dsimp only
          go_simp
          exact hK.out (ups s 48 (.slice (some ⟨qb, qo, none⟩) N dc)) b _ ⟨hB, (p1_ hF.out), (p2_ hF.out), (fun _ => rfl), (p4_ hF.out), (p5_ hF.out), (p6_ hF.out), (p7_ hF.out), (p8_ hF.out), (q9_ hF.out)⟩
        refine StepsF.cons (o := _) rfl (ws := []) (by kernel_rfl) (by decide) (fun d s b w hF hd hw K_ hK => ?_) ?_
        · have hB : Below wr.heap.size wr w := (p0_ hF.out)
          dsimp only
          go_simp
          exact hK.out (ups s 49 (.int .i64 m)) b _ ⟨hB, (p1_ hF.out), (p2_ hF.out), (p3_ hF.out), (fun _ => rfl), (p5_ hF.out), (p6_ hF.out), (p7_ hF.out), (p8_ hF.out), (q9_ hF.out)⟩
        refine StepsF.cons (o := _) rfl (ws := [2, 3]) (by kernel_rfl) (by decide) (fun d s b w hF hd hw K_ hK => ?_) ?_
        · have hB : Below wr.heap.size wr w := (p0_ hF.out)
          have e2 : s 48 = .slice (some ⟨qb, qo, none⟩) N dc := (p3_ hF.out) (hw 2 (by decide))
          have e3 : s 49 = .int .i64 m := (p4_ hF.out) (hw 3 (by decide))
          dsimp only
          go_simp
          exact hK.out (ups (ups (ups s 48 (.slice (some ⟨qb, qo, none⟩) N dc)) 49 (.int .i64 m)) 50 (.slice (some ⟨qb, qo, none⟩) m dc)) b _ ⟨hB, (p1_ hF.out), (p2_ hF.out), (fun _ => rfl), (fun _ => rfl), (fun _ => rfl), (p6_ hF.out), (p7_ hF.out), (p8_ hF.out), (q9_ hF.out)⟩
        refine StepsF.cons (o := _) rfl (ws := [0, 1, 4]) (by kernel_rfl) (by decide) (fun d s b w hF hd hw K_ hK => ?_) ?_
        · have hB : Below wr.heap.size wr w := (p0_ hF.out)
          have e0 : s 46 = .agg (nums .u8 kf 32).toArray := (p1_ hF.out) (hw 0 (by decide))
          have e1 : s 47 = .agg (nums .u8 nf 12).toArray := (p2_ hF.out) (hw 1 (by decide))
          have e4 : s 50 = .slice (some ⟨qb, qo, none⟩) m dc := (p5_ hF.out) (hw 4 (by decide))
          dsimp only
          go_simp
          go_at_call 30
          refine (XO.out _ (.inr ⟨qb, qo, rfl, HQ2.out.later hB⟩)).mono ?_
          rintro e w1 ⟨v, rfl, hv, hb⟩
          exact hK.out (ups (ups (ups (ups s 46 (.agg (nums .u8 kf 32).toArray)) 47 (.agg (nums .u8 nf 12).toArray)) 50 (.slice (some ⟨qb, qo, none⟩) m dc)) 51 (v)) b _ ⟨(Below.go hB hb), (fun _ => rfl), (fun _ => rfl), (p3_ hF.out), (p4_ hF.out), (fun _ => rfl), (fun _ => hv), (fun h => absurd ((q9_ hF.out) h) (by simp [hd])), (p8_ hF.out), (fun _ => rfl)⟩
        refine StepsF.cons (o := _) rfl (ws := [5, 5, 0, 1, 2, 3, 4, 5]) (by kernel_rfl) (by decide) (fun d s b w hF hd hw K_ hK => ?_) ?_
        · have hB : Below wr.heap.size wr w := (p0_ hF.out)
          have e0 : s 46 = .agg (nums .u8 kf 32).toArray := (p1_ hF.out) (hw 0 (by decide))
          have e1 : s 47 = .agg (nums .u8 nf 12).toArray := (p2_ hF.out) (hw 1 (by decide))
          have e2 : s 48 = .slice (some ⟨qb, qo, none⟩) N dc := (p3_ hF.out) (hw 2 (by decide))
          have e3 : s 49 = .int .i64 m := (p4_ hF.out) (hw 3 (by decide))
          have e4 : s 50 = .slice (some ⟨qb, qo, none⟩) m dc := (p5_ hF.out) (hw 4 (by decide))
          dsimp only
          go_simp
          exact hK.out (ups (ups (ups (ups (ups (ups s 46 (.agg (nums .u8 kf 32).toArray)) 47 (.agg (nums .u8 nf 12).toArray)) 48 (.slice (some ⟨qb, qo, none⟩) N dc)) 49 (.int .i64 m)) 50 (.slice (some ⟨qb, qo, none⟩) m dc)) 8 (s 51)) b _ ⟨hB, (fun _ => rfl), (fun _ => rfl), (fun _ => rfl), (fun _ => rfl), (fun _ => rfl), (p6_ hF.out), (fun _ => rfl), (p8_ hF.out), (fun _ => hw 5 (by decide))⟩
        refine StepsF.cons (o := _) rfl (ws := [6, 0, 1, 2, 3, 4, 5, 6]) (by kernel_rfl) (by decide) (fun d s b w hF hd hw K_ hK => ?_) ?_
        · have hB : Below wr.heap.size wr w := (p0_ hF.out)
          have e0 : s 46 = .agg (nums .u8 kf 32).toArray := (p1_ hF.out) (hw 0 (by decide))
          have e1 : s 47 = .agg (nums .u8 nf 12).toArray := (p2_ hF.out) (hw 1 (by decide))
          have e2 : s 48 = .slice (some ⟨qb, qo, none⟩) N dc := (p3_ hF.out) (hw 2 (by decide))
          have e3 : s 49 = .int .i64 m := (p4_ hF.out) (hw 3 (by decide))
          have e4 : s 50 = .slice (some ⟨qb, qo, none⟩) m dc := (p5_ hF.out) (hw 4 (by decide))
          dsimp only
          go_simp
          exact hK.out (ups (ups (ups (ups (ups (ups s 46 (.agg (nums .u8 kf 32).toArray)) 47 (.agg (nums .u8 nf 12).toArray)) 48 (.slice (some ⟨qb, qo, none⟩) N dc)) 49 (.int .i64 m)) 50 (.slice (some ⟨qb, qo, none⟩) m dc)) 9 (.int .i64 0)) b _ ⟨hB, (fun _ => rfl), (fun _ => rfl), (fun _ => rfl), (fun _ => rfl), (fun _ => rfl), (p6_ hF.out), (p7_ hF.out), (fun _ => rfl), (q9_ hF.out)⟩
        exact StepsF.nil
      intro d s b y3 hF hall
      replace hF := Lib.hid hF
      have hB : Below wr.heap.size wr y3 := (p0_ hF.out)
      try dsimp only
      have e0 : s 46 = .agg (nums .u8 kf 32).toArray := (p1_ hF.out) (hall 0 (by decide))
      have e1 : s 47 = .agg (nums .u8 nf 12).toArray := (p2_ hF.out) (hall 1 (by decide))
      have e2 : s 48 = .slice (some ⟨qb, qo, none⟩) N dc := (p3_ hF.out) (hall 2 (by decide))
      have e3 : s 49 = .int .i64 m := (p4_ hF.out) (hall 3 (by decide))
      have e4 : s 50 = .slice (some ⟨qb, qo, none⟩) m dc := (p5_ hF.out) (hall 4 (by decide))
      have f5 := (p6_ hF.out) (hall 5 (by decide))
      have e6 : s 8 = s 51 := (p7_ hF.out) (hall 6 (by decide))
      have e7 : s 9 = .int .i64 0 := (p8_ hF.out) (hall 7 (by decide))
      rw [e0, e1, e2, e3, e4, e6, e7]
      clear hall hF e0 e1 e2 e3 e4 e6 e7
      obtain ⟨q51, hz⟩ : ∃ x, x = s 51 := ⟨_, rfl⟩
      rw [← hz] at f5 ⊢
      clear hz
      clear d s b
      have hB2 := Below.go HB.out hB
      clear HB hB
      go_wp2_with (fail)
      exact bodyPost_ret (v := .tuple #[q51, .int .i64 0]) (by simp [results, Tryd.results19, go_sem]) rfl ⟨⟨_, rfl, f5⟩, hB2⟩
end Go.Proofs.YtjkeaiihjbcfgaaDoor
