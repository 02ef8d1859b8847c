/- ShaCompresses, ShaSums: the walks. -/
import Derived.Test.YtajejlaoompieaaDoorHR
import Derived.Lib.Hide
import Derived.Deep.Onto
namespace Go.Proofs.YtajejlaoompieaaDoor
set_option linter.unusedVariables false
set_option maxRecDepth 2000
set_option linter.unusedSimpArgs false
open Go.RowKit
theorem eqin_nums {P : Program} {t e n : Nat} {k : IntKind} {f : Nat → Int} {w : World} (ht : P.underlying t = some (.array n e)) (he : P.underlying e = some (.int k)) (hs : (sizeOf e).run P w = .ok 1 w) (ha : (isAgg e).run P w = .ok false w) :
    (Op.equalIn 10000 t (.agg (nums k f n).toArray) (.agg (nums k f n).toArray)).run P w = .ok true w := eq_nums (n := n) 9998 ht he hs ha
theorem few9_any (p : Option Addr) (n c T : Nat) (e : min (n : Int) 300 = (T : Int)) (hT : T ≤ c) (w : World) :
    Calls Tryd.prog 19 #[.slice p n c] w fun e w' => e = .returned (.slice p T c) ∧ Below w.heap.size w w' := by
  have T0 : (0 : Int) ≤ (T : Int) := by omega
  have T1 : (T : Int) ≤ (c : Int) := by omega
  go_enter Tryd.func19, Tryd.ntmps19
  go_wp2_with (fail)
  go_ret
  exact ⟨by first | rfl | (simp [sliced_head]; done) | (simp [sliced_head]; omega), Below.refl _ _⟩

set_option maxHeartbeats 8000000 in
theorem Compresses_core (hf bf : Nat → Int) (hh : ∀ j, j < 8 → in32 (hf j)) (hb : ∀ i, i < 64 → inB (bf i)) (w : World) (hG : Has 0 0 (nums .u32 kC 64) w) (hH : Has 1 0 (nums .u32 hC 8) w) : Calls Tryd.prog 4 #[(.agg (nums .u32 hf 8).toArray), (.agg (nums .u8 bf 64).toArray)] w fun e w' => e = .returned (.bool true) ∧ Below w.heap.size w w' := by
  have HG0 := Lib.hid hG; have HH0 := Lib.hid hH
  obtain ⟨cf, ecf⟩ : ∃ cf, compF kC hf bf = cf := ⟨_, rfl⟩
  have CC := Lib.hid (fun w h => ecf ▸ Compress_any hf bf hh hb w h)
  have RC := Lib.hid (fun w => ecf ▸ RCompress_any hf bf hh hb w)
  clear hG hH hh hb ecf
  go_enter Tryd.func4, Tryd.ntmps4
  go_upto_region 1 with fail
  obtain ⟨W0, hW⟩ : ∃ W0, W0 = ((w.alloc (.cells (nums .u32 hf 8).toArray 28)).alloc (.cells (nums .u8 bf 64).toArray 29)) := ⟨_, rfl⟩
  have hB0 : Below w.heap.size w W0 := hW ▸ (Below.al (Below.al (Below.refl _ _)))
  have HH : Hid (Own w.heap.size (nums .u32 hf 8) W0) := Lib.hid (hW ▸ (show Own w.heap.size (nums .u32 hf 8) (w.alloc (.cells (nums .u32 hf 8).toArray 28)) from Own.newAt (by simp)).alloc)
  have HBk : Hid (Own (w.heap.size + 1) (nums .u8 bf 64) W0) := Lib.hid (hW ▸ (show Own (w.heap.size + 1) (nums .u8 bf 64) ((w.alloc (.cells (nums .u32 hf 8).toArray 28)).alloc (.cells (nums .u8 bf 64).toArray 29)) from Own.newAt (by simp)))
  rw [← hW]
  clear hW
  obtain ⟨B, eB⟩ : ∃ X, X = (w.heap.size + 1) := ⟨_, rfl⟩
  rw [← eB] at HBk ⊢
  have Bw : w.heap.size ≤ B := by omega
  obtain ⟨H, eH⟩ : ∃ X, X = w.heap.size := ⟨_, rfl⟩
  rw [← eH] at HH ⊢
  have Hw : w.heap.size ≤ H := by omega
  have nHB : H ≠ B := by omega
  have nBH : B ≠ H := by omega
  clear eH eB
  have HG := Lib.hid (HG0.out.later hB0)
  have HI := Lib.hid (HH0.out.later hB0)
  clear HG0 HH0
  refine wp_region_fun 11 (by kernel_rfl) (by kernel_rfl) rfl (fun s b => ⟨#[(.agg (nums .u32 hf 8).toArray), (.agg (nums .u8 bf 64).toArray), .pointer (some ⟨H, 0, none⟩), .pointer (some ⟨B, 0, none⟩), s 4, s 5, s 6, s 7, s 8, s 9, s 10, s 11, s 12, s 13, s 14], []⟩) (fun d s b w => (Below W0.heap.size W0 w) ∧ (d 0 = true → s 5 = (.agg (nums .u32 hf 8).toArray)) ∧ (d 1 = true → s 6 = (.agg (nums .u8 bf 64).toArray)) ∧ (d 2 = true → s 7 = (.agg (nums .u32 cf 8).toArray)) ∧ (d 3 = true → s 8 = (.agg (nums .u32 hf 8).toArray)) ∧ (d 4 = true → s 9 = (.agg (nums .u8 bf 64).toArray)) ∧ (d 5 = true → s 10 = (.agg (nums .u32 cf 8).toArray)) ∧ (d 6 = true → s 11 = .bool true) ∧ (d 7 = true → s 12 = .bool true) ∧ (d 8 = true → s 13 = .bool true) ∧ (d 9 = true → s 14 = .bool true) ∧ (d 10 = true → s 4 = .bool true)) rfl ?h0y1 (?sty1 : StepsF _ _ _ _ 11 _ _ [0, 1, 2, 3, 4, 5, 6, 7, 8, 9, 10]) ?dny1
  case h0y1 => exact ⟨Below.drew (Below.refl _ _), (fun h => nomatch h), (fun h => nomatch h), (fun h => nomatch h), (fun h => nomatch h), (fun h => nomatch h), (fun h => nomatch h), (fun h => nomatch h), (fun h => nomatch h), (fun h => nomatch h), (fun h => nomatch h), (fun h => nomatch h)⟩
  case sty1 =>
    refine StepsF.cons (o := _) rfl (ws := []) (by kernel_rfl) (by decide) (fun d s b w hF hd hw K_ hK => ?_) ?_
    · have hB : Below W0.heap.size W0 w := (p0_ hF.out)
      refine step_load (by simp [Region.wanted]) 28 _ rfl H 0 rfl (nums .u32 hf 8) _ (HH.out.later hB).cell Tryd.underlying28 rfl (by kernel_rfl) ?_
      exact hK.out (ups s 5 ((.agg (nums .u32 hf 8).toArray))) b _ ⟨hB, (fun _ => rfl), (p2_ hF.out), (p3_ hF.out), (p4_ hF.out), (p5_ hF.out), (p6_ hF.out), (p7_ hF.out), (p8_ hF.out), (p9_ hF.out), (p10_ hF.out), (q11_ hF.out)⟩
    refine StepsF.cons (o := _) rfl (ws := []) (by kernel_rfl) (by decide) (fun d s b w hF hd hw K_ hK => ?_) ?_
    · have hB : Below W0.heap.size W0 w := (p0_ hF.out)
      refine step_load (by simp [Region.wanted]) 29 _ rfl B 0 rfl (nums .u8 bf 64) _ (HBk.out.later hB).cell Tryd.underlying29 rfl (by kernel_rfl) ?_
      exact hK.out (ups s 6 ((.agg (nums .u8 bf 64).toArray))) b _ ⟨hB, (p1_ hF.out), (fun _ => rfl), (p3_ hF.out), (p4_ hF.out), (p5_ hF.out), (p6_ hF.out), (p7_ hF.out), (p8_ hF.out), (p9_ hF.out), (p10_ hF.out), (q11_ hF.out)⟩
    refine StepsF.cons (o := _) rfl (ws := [0, 1]) (by kernel_rfl) (by decide) (fun d s b w hF hd hw K_ hK => ?_) ?_
    · have hB : Below W0.heap.size W0 w := (p0_ hF.out)
      have e0 : s 5 = (.agg (nums .u32 hf 8).toArray) := (p1_ hF.out) (hw 0 (by decide))
      have e1 : s 6 = (.agg (nums .u8 bf 64).toArray) := (p2_ hF.out) (hw 1 (by decide))
      dsimp only
      go_simp
      go_at_call 14
      refine (CC.out _ (HG.out.later hB)).mono ?_
      rintro e w1 ⟨rfl, hb⟩
      exact hK.out (ups (ups (ups s 5 ((.agg (nums .u32 hf 8).toArray))) 6 ((.agg (nums .u8 bf 64).toArray))) 7 ((.agg (nums .u32 cf 8).toArray))) b _ ⟨(Below.go hB hb), (fun _ => rfl), (fun _ => rfl), (fun _ => rfl), (p4_ hF.out), (p5_ hF.out), (p6_ hF.out), (p7_ hF.out), (p8_ hF.out), (p9_ hF.out), (p10_ hF.out), (q11_ hF.out)⟩
    refine StepsF.cons (o := _) rfl (ws := []) (by kernel_rfl) (by decide) (fun d s b w hF hd hw K_ hK => ?_) ?_
    · have hB : Below W0.heap.size W0 w := (p0_ hF.out)
      refine step_load (by simp [Region.wanted]) 28 _ rfl H 0 rfl (nums .u32 hf 8) _ (HH.out.later hB).cell Tryd.underlying28 rfl (by kernel_rfl) ?_
      exact hK.out (ups s 8 ((.agg (nums .u32 hf 8).toArray))) b _ ⟨hB, (p1_ hF.out), (p2_ hF.out), (p3_ hF.out), (fun _ => rfl), (p5_ hF.out), (p6_ hF.out), (p7_ hF.out), (p8_ hF.out), (p9_ hF.out), (p10_ hF.out), (q11_ hF.out)⟩
    refine StepsF.cons (o := _) rfl (ws := []) (by kernel_rfl) (by decide) (fun d s b w hF hd hw K_ hK => ?_) ?_
    · have hB : Below W0.heap.size W0 w := (p0_ hF.out)
      refine step_load (by simp [Region.wanted]) 29 _ rfl B 0 rfl (nums .u8 bf 64) _ (HBk.out.later hB).cell Tryd.underlying29 rfl (by kernel_rfl) ?_
      exact hK.out (ups s 9 ((.agg (nums .u8 bf 64).toArray))) b _ ⟨hB, (p1_ hF.out), (p2_ hF.out), (p3_ hF.out), (p4_ hF.out), (fun _ => rfl), (p6_ hF.out), (p7_ hF.out), (p8_ hF.out), (p9_ hF.out), (p10_ hF.out), (q11_ hF.out)⟩
    refine StepsF.cons (o := _) rfl (ws := [3, 4, 2]) (by kernel_rfl) (by decide) (fun d s b w hF hd hw K_ hK => ?_) ?_
    · have hB : Below W0.heap.size W0 w := (p0_ hF.out)
      have e2 : s 7 = (.agg (nums .u32 cf 8).toArray) := (p3_ hF.out) (hw 2 (by decide))
      have e3 : s 8 = (.agg (nums .u32 hf 8).toArray) := (p4_ hF.out) (hw 3 (by decide))
      have e4 : s 9 = (.agg (nums .u8 bf 64).toArray) := (p5_ hF.out) (hw 4 (by decide))
      dsimp only
      go_simp
      go_at_call 15
      refine (RC.out _).mono ?_
      rintro e w1 ⟨rfl, hb⟩
      exact hK.out (ups (ups (ups (ups s 7 ((.agg (nums .u32 cf 8).toArray))) 8 ((.agg (nums .u32 hf 8).toArray))) 9 ((.agg (nums .u8 bf 64).toArray))) 10 ((.agg (nums .u32 cf 8).toArray))) b _ ⟨(Below.go hB hb), (p1_ hF.out), (p2_ hF.out), (fun _ => rfl), (fun _ => rfl), (fun _ => rfl), (fun _ => rfl), (p7_ hF.out), (p8_ hF.out), (p9_ hF.out), (p10_ hF.out), (q11_ hF.out)⟩
    refine StepsF.cons (o := _) rfl (ws := [2, 5]) (by kernel_rfl) (by decide) (fun d s b w hF hd hw K_ hK => ?_) ?_
    · have hB : Below W0.heap.size W0 w := (p0_ hF.out)
      have e2 : s 7 = (.agg (nums .u32 cf 8).toArray) := (p3_ hF.out) (hw 2 (by decide))
      have e5 : s 10 = (.agg (nums .u32 cf 8).toArray) := (p6_ hF.out) (hw 5 (by decide))
      dsimp only
      have hq := eqin_nums (P := Tryd.prog) (f := cf) (k := .u32) (n := 8) (w := w) Tryd.underlying28 Tryd.underlying27 (by simp [go_sem]) (by simp [go_sem])
      go_simp
      exact hK.out (ups (ups (ups s 7 ((.agg (nums .u32 cf 8).toArray))) 10 ((.agg (nums .u32 cf 8).toArray))) 11 (.bool true)) b _ ⟨hB, (p1_ hF.out), (p2_ hF.out), (fun _ => rfl), (p4_ hF.out), (p5_ hF.out), (fun _ => rfl), (fun _ => rfl), (p8_ hF.out), (p9_ hF.out), (p10_ hF.out), (q11_ hF.out)⟩
    refine StepsF.cons (o := _) rfl (ws := [6, 5]) (by kernel_rfl) (by decide) (fun d s b w hF hd hw K_ hK => ?_) ?_
    · have hB : Below W0.heap.size W0 w := (p0_ hF.out)
      have e5 : s 10 = (.agg (nums .u32 cf 8).toArray) := (p6_ hF.out) (hw 5 (by decide))
      have e6 : s 11 = .bool true := (p7_ hF.out) (hw 6 (by decide))
      dsimp only
      go_simp
      exact hK.out (ups (ups (ups s 10 ((.agg (nums .u32 cf 8).toArray))) 11 (.bool true)) 12 (.bool true)) b _ ⟨hB, (p1_ hF.out), (p2_ hF.out), (p3_ hF.out), (p4_ hF.out), (p5_ hF.out), (fun _ => rfl), (fun _ => rfl), (fun _ => rfl), (p9_ hF.out), (p10_ hF.out), (q11_ hF.out)⟩
    refine StepsF.cons (o := _) rfl (ws := [7, 7]) (by kernel_rfl) (by decide) (fun d s b w hF hd hw K_ hK => ?_) ?_
    · have hB : Below W0.heap.size W0 w := (p0_ hF.out)
      have e7 : s 12 = .bool true := (p8_ hF.out) (hw 7 (by decide))
      dsimp only
      go_simp
      go_at_call 13
      refine (works_any _ (HG.out.later hB) (HI.out.later hB)).mono ?_
      rintro e w1 ⟨rfl, hb⟩
      exact hK.out (ups (ups s 12 (.bool true)) 13 (.bool true)) b _ ⟨(Below.go hB hb), (p1_ hF.out), (p2_ hF.out), (p3_ hF.out), (p4_ hF.out), (p5_ hF.out), (p6_ hF.out), (p7_ hF.out), (fun _ => rfl), (fun _ => rfl), (p10_ hF.out), (q11_ hF.out)⟩
    refine StepsF.cons (o := _) rfl (ws := [7, 8]) (by kernel_rfl) (by decide) (fun d s b w hF hd hw K_ hK => ?_) ?_
    · have hB : Below W0.heap.size W0 w := (p0_ hF.out)
      have e7 : s 12 = .bool true := (p8_ hF.out) (hw 7 (by decide))
      have e8 : s 13 = .bool true := (p9_ hF.out) (hw 8 (by decide))
      dsimp only
      go_simp
      exact hK.out (ups (ups (ups s 12 (.bool true)) 13 (.bool true)) 14 (.bool true)) b _ ⟨hB, (p1_ hF.out), (p2_ hF.out), (p3_ hF.out), (p4_ hF.out), (p5_ hF.out), (p6_ hF.out), (p7_ hF.out), (fun _ => rfl), (fun _ => rfl), (fun _ => rfl), (q11_ hF.out)⟩
    refine StepsF.cons (o := _) rfl (ws := [9, 8, 0, 1, 2, 3, 4, 5, 6, 7, 8, 9]) (by kernel_rfl) (by decide) (fun d s b w hF hd hw K_ hK => ?_) ?_
    · have hB : Below W0.heap.size W0 w := (p0_ hF.out)
      have e0 : s 5 = (.agg (nums .u32 hf 8).toArray) := (p1_ hF.out) (hw 0 (by decide))
      have e1 : s 6 = (.agg (nums .u8 bf 64).toArray) := (p2_ hF.out) (hw 1 (by decide))
      have e2 : s 7 = (.agg (nums .u32 cf 8).toArray) := (p3_ hF.out) (hw 2 (by decide))
      have e3 : s 8 = (.agg (nums .u32 hf 8).toArray) := (p4_ hF.out) (hw 3 (by decide))
      have e4 : s 9 = (.agg (nums .u8 bf 64).toArray) := (p5_ hF.out) (hw 4 (by decide))
      have e5 : s 10 = (.agg (nums .u32 cf 8).toArray) := (p6_ hF.out) (hw 5 (by decide))
      have e6 : s 11 = .bool true := (p7_ hF.out) (hw 6 (by decide))
      have e7 : s 12 = .bool true := (p8_ hF.out) (hw 7 (by decide))
      have e8 : s 13 = .bool true := (p9_ hF.out) (hw 8 (by decide))
      have e9 : s 14 = .bool true := (p10_ hF.out) (hw 9 (by decide))
      dsimp only
      go_simp
      exact hK.out (ups (ups (ups (ups (ups (ups (ups (ups (ups (ups (ups s 5 ((.agg (nums .u32 hf 8).toArray))) 6 ((.agg (nums .u8 bf 64).toArray))) 7 ((.agg (nums .u32 cf 8).toArray))) 8 ((.agg (nums .u32 hf 8).toArray))) 9 ((.agg (nums .u8 bf 64).toArray))) 10 ((.agg (nums .u32 cf 8).toArray))) 11 (.bool true)) 12 (.bool true)) 13 (.bool true)) 14 (.bool true)) 4 (.bool true)) b _ ⟨hB, (fun _ => rfl), (fun _ => rfl), (fun _ => rfl), (fun _ => rfl), (fun _ => rfl), (fun _ => rfl), (fun _ => rfl), (fun _ => rfl), (fun _ => rfl), (fun _ => rfl), (fun _ => rfl)⟩
    exact StepsF.nil
  intro d s b y1 hF hall
  replace hF := Lib.hid hF
  have hB : Below W0.heap.size W0 y1 := (p0_ hF.out)
  try dsimp only
  have e0 : s 5 = (.agg (nums .u32 hf 8).toArray) := (p1_ hF.out) (hall 0 (by decide))
  have e1 : s 6 = (.agg (nums .u8 bf 64).toArray) := (p2_ hF.out) (hall 1 (by decide))
  have e2 : s 7 = (.agg (nums .u32 cf 8).toArray) := (p3_ hF.out) (hall 2 (by decide))
  have e3 : s 8 = (.agg (nums .u32 hf 8).toArray) := (p4_ hF.out) (hall 3 (by decide))
  have e4 : s 9 = (.agg (nums .u8 bf 64).toArray) := (p5_ hF.out) (hall 4 (by decide))
  have e5 : s 10 = (.agg (nums .u32 cf 8).toArray) := (p6_ hF.out) (hall 5 (by decide))
  have e6 : s 11 = .bool true := (p7_ hF.out) (hall 6 (by decide))
  have e7 : s 12 = .bool true := (p8_ hF.out) (hall 7 (by decide))
  have e8 : s 13 = .bool true := (p9_ hF.out) (hall 8 (by decide))
  have e9 : s 14 = .bool true := (p10_ hF.out) (hall 9 (by decide))
  have e10 : s 4 = .bool true := (q11_ hF.out) (hall 10 (by decide))
  rw [e0, e1, e2, e3, e4, e5, e6, e7, e8, e9, e10]
  clear hall hF e0 e1 e2 e3 e4 e5 e6 e7 e8 e9 e10
  clear d s b
  go_wp2_with (fail)
  go_ret
  exact ⟨rfl, Below.go hB0 hB⟩

set_option maxHeartbeats 8000000 in
theorem Sums_core (q : Option Addr) (n c m : Nat) (g f : Nat → Int) (hm : m = min n 300) (hnc : n ≤ c) (hc : c ≤ 9223372036854775807) (hg : ∀ j, j < m → inB (g j)) (hf : ∀ j, j < 32 → inB (f j)) (w : World) (hG : Has 0 0 (nums .u32 kC 64) w) (hH : Has 1 0 (nums .u32 hC 8) w) (hb : Byt w q m g) : Calls Tryd.prog 6 #[.slice q n c, (.agg (nums .u8 f 32).toArray)] w fun e w' => e = .returned (.bool true) ∧ Below w.heap.size w w' := by
  have HG0 := Lib.hid hG; have HH0 := Lib.hid hH; have BY0 := Lib.hid hb
  obtain ⟨sf, esf⟩ : ∃ sf, sumF g m = sf := ⟨_, rfl⟩
  obtain ⟨S_, eS⟩ : ∃ S_, hexS f 64 = S_ := ⟨_, rfl⟩
  have FC := Lib.hid (fun w => few9_any q n c m (by omega) (by omega) w)
  have SC := Lib.hid (fun P_ w h1 h2 h3 => Sum_of 1 1 m P_ g sf (T1 m) rfl esf rfl (fun k hk => by unfold T1; split <;> omega) (Nat.le_refl _) (by decide) (fun k hk j hj => hg j (by unfold T1 at hj; split at hj <;> omega)) w h1 h2 h3)
  have RC := Lib.hid (fun w h => esf ▸ RSum_any q m c g (by omega) hg w h)
  have XC := Lib.hid (fun w => eS ▸ Hex_any f hf w)
  have YC := Lib.hid (fun w => eS ▸ RHex_any f hf w)
  have MC := Lib.hid (show m ≤ c ∧ c ≤ 9223372036854775807 by omega)
  clear hG hH hb esf eS hg hf hm hnc hc
  go_enter Tryd.func6, Tryd.ntmps6
  go_upto_region 1 with fail
  obtain ⟨W0, hW⟩ : ∃ W0, W0 = (w.alloc (.cells (nums .u8 f 32).toArray 35)) := ⟨_, rfl⟩
  have hB0 : Below w.heap.size w W0 := hW ▸ (Below.al (Below.refl _ _))
  have HT : Hid (Own w.heap.size (nums .u8 f 32) W0) := Lib.hid (hW ▸ (show Own w.heap.size (nums .u8 f 32) (w.alloc (.cells (nums .u8 f 32).toArray 35)) from Own.newAt (by simp)))
  rw [← hW]
  clear hW
  obtain ⟨T, eT⟩ : ∃ X, X = w.heap.size := ⟨_, rfl⟩
  rw [← eT] at HT ⊢
  have Tw : w.heap.size ≤ T := by omega
  clear eT
  have HG := Lib.hid (HG0.out.later hB0)
  have HI := Lib.hid (HH0.out.later hB0)
  have BY := Lib.hid (BY0.out.later hB0)
  clear HG0 HH0 BY0
  refine wp_region_fun 19 (by kernel_rfl) (by kernel_rfl) rfl (fun s b => ⟨#[.slice q n c, (.agg (nums .u8 f 32).toArray), undef, .pointer (some ⟨T, 0, none⟩), s 4, s 5, s 6, s 7, s 8, s 9, s 10, s 11, s 12, s 13, s 14, s 15, s 16, s 17, s 18, s 19, s 20, s 21, s 22], []⟩) (fun d s b w => (Below W0.heap.size W0 w) ∧ (d 0 = true → s 5 = .slice q n c) ∧ (d 1 = true → s 6 = .slice q m c) ∧ (d 2 = true → s 7 = .slice (some ⟨(b 2), 0, none⟩) 1 1 ∧ W0.heap.size ≤ b 2) ∧ (d 2 = true → d 3 = false → Own (b 2) [.slice q m c] w) ∧ (d 3 = true → s 8 = (.agg (nums .u8 sf 32).toArray)) ∧ (d 4 = true → s 9 = .slice q n c) ∧ (d 5 = true → s 10 = .slice q m c) ∧ (d 6 = true → s 11 = (.agg (nums .u8 sf 32).toArray)) ∧ (d 7 = true → s 12 = .bool true) ∧ (d 8 = true → s 13 = .bool true) ∧ (d 9 = true → s 14 = (.agg (nums .u8 f 32).toArray)) ∧ (d 10 = true → s 15 = .string S_) ∧ (d 11 = true → s 16 = (.agg (nums .u8 f 32).toArray)) ∧ (d 12 = true → s 17 = .string S_) ∧ (d 13 = true → s 18 = .bool true) ∧ (d 14 = true → s 19 = .bool true) ∧ (d 15 = true → s 20 = .bool true) ∧ (d 16 = true → s 21 = .bool true) ∧ (d 17 = true → s 22 = .bool true) ∧ (d 18 = true → s 4 = .bool true)) rfl ?h0y1 (?sty1 : StepsF _ _ _ _ 19 _ _ [0, 1, 2, 3, 4, 5, 6, 7, 8, 9, 10, 11, 12, 13, 14, 15, 16, 17, 18]) ?dny1
  case h0y1 => exact ⟨Below.drew (Below.refl _ _), (fun h => nomatch h), (fun h => nomatch h), (fun h => nomatch h), (fun h => nomatch h), (fun h => nomatch h), (fun h => nomatch h), (fun h => nomatch h), (fun h => nomatch h), (fun h => nomatch h), (fun h => nomatch h), (fun h => nomatch h), (fun h => nomatch h), (fun h => nomatch h), (fun h => nomatch h), (fun h => nomatch h), (fun h => nomatch h), (fun h => nomatch h), (fun h => nomatch h), (fun h => nomatch h), (fun h => nomatch h)⟩
  case sty1 =>
    refine StepsF.cons (o := _) rfl (ws := []) (by kernel_rfl) (by decide) (fun d s b w hF hd hw K_ hK => ?_) ?_
    · have hB : Below W0.heap.size W0 w := (p0_ hF.out)
      dsimp only
      go_simp
      exact hK.out (ups s 5 (.slice q n c)) b _ ⟨hB, (fun _ => rfl), (p2_ hF.out), (p3_ hF.out), (p4_ hF.out), (p5_ hF.out), (p6_ hF.out), (p7_ hF.out), (p8_ hF.out), (p9_ hF.out), (p10_ hF.out), (p11_ hF.out), (p12_ hF.out), (p13_ hF.out), (p14_ hF.out), (p15_ hF.out), (p16_ hF.out), (p17_ hF.out), (p18_ hF.out), (p19_ hF.out), (q20_ hF.out)⟩
    refine StepsF.cons (o := _) rfl (ws := [0]) (by kernel_rfl) (by decide) (fun d s b w hF hd hw K_ hK => ?_) ?_
    · have hB : Below W0.heap.size W0 w := (p0_ hF.out)
      have e0 : s 5 = .slice q n c := (p1_ hF.out) (hw 0 (by decide))
      dsimp only
      go_simp
      go_at_call 19
      refine (FC.out _).mono ?_
      rintro e w1 ⟨rfl, hb⟩
      exact hK.out (ups (ups s 5 (.slice q n c)) 6 (.slice q m c)) b _ ⟨(Below.go hB hb), (fun _ => rfl), (fun _ => rfl), (p3_ hF.out), (fun h0 h1 => ((p4_ hF.out) h0 h1).later hb), (p5_ hF.out), (p6_ hF.out), (p7_ hF.out), (p8_ hF.out), (p9_ hF.out), (p10_ hF.out), (p11_ hF.out), (p12_ hF.out), (p13_ hF.out), (p14_ hF.out), (p15_ hF.out), (p16_ hF.out), (p17_ hF.out), (p18_ hF.out), (p19_ hF.out), (q20_ hF.out)⟩
    refine StepsF.cons (o := _) rfl (ws := [1]) (by kernel_rfl) (by decide) (fun d s b w hF hd hw K_ hK => ?_) ?_
    · have hB : Below W0.heap.size W0 w := (p0_ hF.out)
      have e1 : s 6 = .slice q m c := (p2_ hF.out) (hw 1 (by decide))
      dsimp only
      go_simp
      exact hK.out (ups (ups s 6 (.slice q m c)) 7 (.slice (some ⟨w.heap.size, 0, none⟩) 1 1)) (ups b 2 w.heap.size) _ ⟨(hB.alloc hB.size _), (p1_ hF.out), (fun _ => rfl), (fun _ => ⟨rfl, hB.size⟩), (fun _ _ => Own.newAt rfl), (p5_ hF.out), (p6_ hF.out), (p7_ hF.out), (p8_ hF.out), (p9_ hF.out), (p10_ hF.out), (p11_ hF.out), (p12_ hF.out), (p13_ hF.out), (p14_ hF.out), (p15_ hF.out), (p16_ hF.out), (p17_ hF.out), (p18_ hF.out), (p19_ hF.out), (q20_ hF.out)⟩
    refine StepsF.cons (o := _) rfl (ws := [2, 1]) (by kernel_rfl) (by decide) (fun d s b w hF hd hw K_ hK => ?_) ?_
    · have hB : Below W0.heap.size W0 w := (p0_ hF.out)
      have e1 : s 6 = .slice q m c := (p2_ hF.out) (hw 1 (by decide))
      have e2 : s 7 = .slice (some ⟨(b 2), 0, none⟩) 1 1 := ((p3_ hF.out) (hw 2 (by decide))).1
      have le2 : W0.heap.size ≤ b 2 := ((p3_ hF.out) (hw 2 (by decide))).2
      dsimp only
      go_simp
      go_at_call 17
      refine (SC.out _ _ (HG.out.later hB) (HI.out.later hB) (parts_one (((p4_ hF.out) (hw 2 (by decide))) hd) ⟨q, c, rfl, MC.out.1, MC.out.2, BY.out.later hB⟩)).mono ?_
      rintro e w1 ⟨rfl, hb⟩
      exact hK.out (ups (ups (ups s 6 (.slice q m c)) 7 (.slice (some ⟨(b 2), 0, none⟩) 1 1)) 8 ((.agg (nums .u8 sf 32).toArray))) b _ ⟨(Below.go hB hb), (p1_ hF.out), (fun _ => rfl), (fun _ => ⟨rfl, le2⟩), (fun _ h => nomatch h), (fun _ => rfl), (p6_ hF.out), (p7_ hF.out), (p8_ hF.out), (p9_ hF.out), (p10_ hF.out), (p11_ hF.out), (p12_ hF.out), (p13_ hF.out), (p14_ hF.out), (p15_ hF.out), (p16_ hF.out), (p17_ hF.out), (p18_ hF.out), (p19_ hF.out), (q20_ hF.out)⟩
    refine StepsF.cons (o := _) rfl (ws := []) (by kernel_rfl) (by decide) (fun d s b w hF hd hw K_ hK => ?_) ?_
    · have hB : Below W0.heap.size W0 w := (p0_ hF.out)
      dsimp only
      go_simp
      exact hK.out (ups s 9 (.slice q n c)) b _ ⟨hB, (p1_ hF.out), (p2_ hF.out), (p3_ hF.out), (p4_ hF.out), (p5_ hF.out), (fun _ => rfl), (p7_ hF.out), (p8_ hF.out), (p9_ hF.out), (p10_ hF.out), (p11_ hF.out), (p12_ hF.out), (p13_ hF.out), (p14_ hF.out), (p15_ hF.out), (p16_ hF.out), (p17_ hF.out), (p18_ hF.out), (p19_ hF.out), (q20_ hF.out)⟩
    refine StepsF.cons (o := _) rfl (ws := [4, 3]) (by kernel_rfl) (by decide) (fun d s b w hF hd hw K_ hK => ?_) ?_
    · have hB : Below W0.heap.size W0 w := (p0_ hF.out)
      have e3 : s 8 = (.agg (nums .u8 sf 32).toArray) := (p5_ hF.out) (hw 3 (by decide))
      have e4 : s 9 = .slice q n c := (p6_ hF.out) (hw 4 (by decide))
      dsimp only
      go_simp
      go_at_call 19
      refine (FC.out _).mono ?_
      rintro e w1 ⟨rfl, hb⟩
      exact hK.out (ups (ups (ups s 8 ((.agg (nums .u8 sf 32).toArray))) 9 (.slice q n c)) 10 (.slice q m c)) b _ ⟨(Below.go hB hb), (p1_ hF.out), (p2_ hF.out), (p3_ hF.out), (fun h0 h1 => ((p4_ hF.out) h0 h1).later hb), (fun _ => rfl), (fun _ => rfl), (fun _ => rfl), (p8_ hF.out), (p9_ hF.out), (p10_ hF.out), (p11_ hF.out), (p12_ hF.out), (p13_ hF.out), (p14_ hF.out), (p15_ hF.out), (p16_ hF.out), (p17_ hF.out), (p18_ hF.out), (p19_ hF.out), (q20_ hF.out)⟩
    refine StepsF.cons (o := _) rfl (ws := [5, 5]) (by kernel_rfl) (by decide) (fun d s b w hF hd hw K_ hK => ?_) ?_
    · have hB : Below W0.heap.size W0 w := (p0_ hF.out)
      have e5 : s 10 = .slice q m c := (p7_ hF.out) (hw 5 (by decide))
      dsimp only
      go_simp
      go_at_call 20
      refine (RC.out _ (BY.out.later hB)).mono ?_
      rintro e w1 ⟨rfl, hb⟩
      exact hK.out (ups (ups s 10 (.slice q m c)) 11 ((.agg (nums .u8 sf 32).toArray))) b _ ⟨(Below.go hB hb), (p1_ hF.out), (p2_ hF.out), (p3_ hF.out), (fun h0 h1 => ((p4_ hF.out) h0 h1).later hb), (p5_ hF.out), (p6_ hF.out), (fun _ => rfl), (fun _ => rfl), (p9_ hF.out), (p10_ hF.out), (p11_ hF.out), (p12_ hF.out), (p13_ hF.out), (p14_ hF.out), (p15_ hF.out), (p16_ hF.out), (p17_ hF.out), (p18_ hF.out), (p19_ hF.out), (q20_ hF.out)⟩
    refine StepsF.cons (o := _) rfl (ws := [3, 6]) (by kernel_rfl) (by decide) (fun d s b w hF hd hw K_ hK => ?_) ?_
    · have hB : Below W0.heap.size W0 w := (p0_ hF.out)
      have e3 : s 8 = (.agg (nums .u8 sf 32).toArray) := (p5_ hF.out) (hw 3 (by decide))
      have e6 : s 11 = (.agg (nums .u8 sf 32).toArray) := (p8_ hF.out) (hw 6 (by decide))
      dsimp only
      have hq := eqin_nums (P := Tryd.prog) (f := sf) (k := .u8) (n := 32) (w := w) Tryd.underlying35 Tryd.underlying5 (by simp [go_sem]) (by simp [go_sem])
      go_simp
      exact hK.out (ups (ups (ups s 8 ((.agg (nums .u8 sf 32).toArray))) 11 ((.agg (nums .u8 sf 32).toArray))) 12 (.bool true)) b _ ⟨hB, (p1_ hF.out), (p2_ hF.out), (p3_ hF.out), (p4_ hF.out), (fun _ => rfl), (p6_ hF.out), (p7_ hF.out), (fun _ => rfl), (fun _ => rfl), (p10_ hF.out), (p11_ hF.out), (p12_ hF.out), (p13_ hF.out), (p14_ hF.out), (p15_ hF.out), (p16_ hF.out), (p17_ hF.out), (p18_ hF.out), (p19_ hF.out), (q20_ hF.out)⟩
    refine StepsF.cons (o := _) rfl (ws := [7, 6]) (by kernel_rfl) (by decide) (fun d s b w hF hd hw K_ hK => ?_) ?_
    · have hB : Below W0.heap.size W0 w := (p0_ hF.out)
      have e6 : s 11 = (.agg (nums .u8 sf 32).toArray) := (p8_ hF.out) (hw 6 (by decide))
      have e7 : s 12 = .bool true := (p9_ hF.out) (hw 7 (by decide))
      dsimp only
      go_simp
      exact hK.out (ups (ups (ups s 11 ((.agg (nums .u8 sf 32).toArray))) 12 (.bool true)) 13 (.bool true)) b _ ⟨hB, (p1_ hF.out), (p2_ hF.out), (p3_ hF.out), (p4_ hF.out), (p5_ hF.out), (p6_ hF.out), (p7_ hF.out), (fun _ => rfl), (fun _ => rfl), (fun _ => rfl), (p11_ hF.out), (p12_ hF.out), (p13_ hF.out), (p14_ hF.out), (p15_ hF.out), (p16_ hF.out), (p17_ hF.out), (p18_ hF.out), (p19_ hF.out), (q20_ hF.out)⟩
    refine StepsF.cons (o := _) rfl (ws := [8]) (by kernel_rfl) (by decide) (fun d s b w hF hd hw K_ hK => ?_) ?_
    · have hB : Below W0.heap.size W0 w := (p0_ hF.out)
      have e8 : s 13 = .bool true := (p10_ hF.out) (hw 8 (by decide))
      refine step_load (by simp [Region.wanted, yielded, e8]) 35 _ rfl T 0 rfl (nums .u8 f 32) _ (HT.out.later hB).cell Tryd.underlying35 rfl (by kernel_rfl) ?_
      exact hK.out (ups s 14 ((.agg (nums .u8 f 32).toArray))) b _ ⟨hB, (p1_ hF.out), (p2_ hF.out), (p3_ hF.out), (p4_ hF.out), (p5_ hF.out), (p6_ hF.out), (p7_ hF.out), (p8_ hF.out), (p9_ hF.out), (p10_ hF.out), (fun _ => rfl), (p12_ hF.out), (p13_ hF.out), (p14_ hF.out), (p15_ hF.out), (p16_ hF.out), (p17_ hF.out), (p18_ hF.out), (p19_ hF.out), (q20_ hF.out)⟩
    refine StepsF.cons (o := _) rfl (ws := [9, 8, 8]) (by kernel_rfl) (by decide) (fun d s b w hF hd hw K_ hK => ?_) ?_
    · have hB : Below W0.heap.size W0 w := (p0_ hF.out)
      have e8 : s 13 = .bool true := (p10_ hF.out) (hw 8 (by decide))
      have e9 : s 14 = (.agg (nums .u8 f 32).toArray) := (p11_ hF.out) (hw 9 (by decide))
      dsimp only
      go_simp
      go_at_call 21
      refine (XC.out _).mono ?_
      rintro e w1 ⟨rfl, hb⟩
      exact hK.out (ups (ups (ups s 13 (.bool true)) 14 ((.agg (nums .u8 f 32).toArray))) 15 (.string S_)) b _ ⟨(Below.go hB hb), (p1_ hF.out), (p2_ hF.out), (p3_ hF.out), (fun h0 h1 => ((p4_ hF.out) h0 h1).later hb), (p5_ hF.out), (p6_ hF.out), (p7_ hF.out), (p8_ hF.out), (p9_ hF.out), (fun _ => rfl), (fun _ => rfl), (fun _ => rfl), (p13_ hF.out), (p14_ hF.out), (p15_ hF.out), (p16_ hF.out), (p17_ hF.out), (p18_ hF.out), (p19_ hF.out), (q20_ hF.out)⟩
    refine StepsF.cons (o := _) rfl (ws := [8]) (by kernel_rfl) (by decide) (fun d s b w hF hd hw K_ hK => ?_) ?_
    · have hB : Below W0.heap.size W0 w := (p0_ hF.out)
      have e8 : s 13 = .bool true := (p10_ hF.out) (hw 8 (by decide))
      refine step_load (by simp [Region.wanted, yielded, e8]) 35 _ rfl T 0 rfl (nums .u8 f 32) _ (HT.out.later hB).cell Tryd.underlying35 rfl (by kernel_rfl) ?_
      exact hK.out (ups s 16 ((.agg (nums .u8 f 32).toArray))) b _ ⟨hB, (p1_ hF.out), (p2_ hF.out), (p3_ hF.out), (p4_ hF.out), (p5_ hF.out), (p6_ hF.out), (p7_ hF.out), (p8_ hF.out), (p9_ hF.out), (p10_ hF.out), (p11_ hF.out), (p12_ hF.out), (fun _ => rfl), (p14_ hF.out), (p15_ hF.out), (p16_ hF.out), (p17_ hF.out), (p18_ hF.out), (p19_ hF.out), (q20_ hF.out)⟩
    refine StepsF.cons (o := _) rfl (ws := [11, 10, 8]) (by kernel_rfl) (by decide) (fun d s b w hF hd hw K_ hK => ?_) ?_
    · have hB : Below W0.heap.size W0 w := (p0_ hF.out)
      have e8 : s 13 = .bool true := (p10_ hF.out) (hw 8 (by decide))
      have e10 : s 15 = .string S_ := (p12_ hF.out) (hw 10 (by decide))
      have e11 : s 16 = (.agg (nums .u8 f 32).toArray) := (p13_ hF.out) (hw 11 (by decide))
      dsimp only
      go_simp
      go_at_call 22
      refine (YC.out _).mono ?_
      rintro e w1 ⟨rfl, hb⟩
      exact hK.out (ups (ups (ups (ups s 13 (.bool true)) 15 (.string S_)) 16 ((.agg (nums .u8 f 32).toArray))) 17 (.string S_)) b _ ⟨(Below.go hB hb), (p1_ hF.out), (p2_ hF.out), (p3_ hF.out), (fun h0 h1 => ((p4_ hF.out) h0 h1).later hb), (p5_ hF.out), (p6_ hF.out), (p7_ hF.out), (p8_ hF.out), (p9_ hF.out), (fun _ => rfl), (p11_ hF.out), (fun _ => rfl), (fun _ => rfl), (fun _ => rfl), (p15_ hF.out), (p16_ hF.out), (p17_ hF.out), (p18_ hF.out), (p19_ hF.out), (q20_ hF.out)⟩
    refine StepsF.cons (o := _) rfl (ws := [10, 12, 8]) (by kernel_rfl) (by decide) (fun d s b w hF hd hw K_ hK => ?_) ?_
    · have hB : Below W0.heap.size W0 w := (p0_ hF.out)
      have e8 : s 13 = .bool true := (p10_ hF.out) (hw 8 (by decide))
      have e10 : s 15 = .string S_ := (p12_ hF.out) (hw 10 (by decide))
      have e12 : s 17 = .string S_ := (p14_ hF.out) (hw 12 (by decide))
      dsimp only
      go_simp
      exact hK.out (ups (ups (ups (ups s 13 (.bool true)) 15 (.string S_)) 17 (.string S_)) 18 (.bool true)) b _ ⟨hB, (p1_ hF.out), (p2_ hF.out), (p3_ hF.out), (p4_ hF.out), (p5_ hF.out), (p6_ hF.out), (p7_ hF.out), (p8_ hF.out), (p9_ hF.out), (fun _ => rfl), (p11_ hF.out), (fun _ => rfl), (p13_ hF.out), (fun _ => rfl), (fun _ => rfl), (p16_ hF.out), (p17_ hF.out), (p18_ hF.out), (p19_ hF.out), (q20_ hF.out)⟩
    refine StepsF.cons (o := _) rfl (ws := [8, 13]) (by kernel_rfl) (by decide) (fun d s b w hF hd hw K_ hK => ?_) ?_
    · have hB : Below W0.heap.size W0 w := (p0_ hF.out)
      have e8 : s 13 = .bool true := (p10_ hF.out) (hw 8 (by decide))
      have e13 : s 18 = .bool true := (p15_ hF.out) (hw 13 (by decide))
      dsimp only
      go_simp
      exact hK.out (ups (ups (ups s 13 (.bool true)) 18 (.bool true)) 19 (.bool true)) b _ ⟨hB, (p1_ hF.out), (p2_ hF.out), (p3_ hF.out), (p4_ hF.out), (p5_ hF.out), (p6_ hF.out), (p7_ hF.out), (p8_ hF.out), (p9_ hF.out), (fun _ => rfl), (p11_ hF.out), (p12_ hF.out), (p13_ hF.out), (p14_ hF.out), (fun _ => rfl), (fun _ => rfl), (p17_ hF.out), (p18_ hF.out), (p19_ hF.out), (q20_ hF.out)⟩
    refine StepsF.cons (o := _) rfl (ws := [14, 12]) (by kernel_rfl) (by decide) (fun d s b w hF hd hw K_ hK => ?_) ?_
    · have hB : Below W0.heap.size W0 w := (p0_ hF.out)
      have e12 : s 17 = .string S_ := (p14_ hF.out) (hw 12 (by decide))
      have e14 : s 19 = .bool true := (p16_ hF.out) (hw 14 (by decide))
      dsimp only
      go_simp
      exact hK.out (ups (ups (ups s 17 (.string S_)) 19 (.bool true)) 20 (.bool true)) b _ ⟨hB, (p1_ hF.out), (p2_ hF.out), (p3_ hF.out), (p4_ hF.out), (p5_ hF.out), (p6_ hF.out), (p7_ hF.out), (p8_ hF.out), (p9_ hF.out), (p10_ hF.out), (p11_ hF.out), (p12_ hF.out), (p13_ hF.out), (fun _ => rfl), (p15_ hF.out), (fun _ => rfl), (fun _ => rfl), (p18_ hF.out), (p19_ hF.out), (q20_ hF.out)⟩
    refine StepsF.cons (o := _) rfl (ws := [15, 15]) (by kernel_rfl) (by decide) (fun d s b w hF hd hw K_ hK => ?_) ?_
    · have hB : Below W0.heap.size W0 w := (p0_ hF.out)
      have e15 : s 20 = .bool true := (p17_ hF.out) (hw 15 (by decide))
      dsimp only
      go_simp
      go_at_call 13
      refine (works_any _ (HG.out.later hB) (HI.out.later hB)).mono ?_
      rintro e w1 ⟨rfl, hb⟩
      exact hK.out (ups (ups s 20 (.bool true)) 21 (.bool true)) b _ ⟨(Below.go hB hb), (p1_ hF.out), (p2_ hF.out), (p3_ hF.out), (fun h0 h1 => ((p4_ hF.out) h0 h1).later hb), (p5_ hF.out), (p6_ hF.out), (p7_ hF.out), (p8_ hF.out), (p9_ hF.out), (p10_ hF.out), (p11_ hF.out), (p12_ hF.out), (p13_ hF.out), (p14_ hF.out), (p15_ hF.out), (p16_ hF.out), (fun _ => rfl), (fun _ => rfl), (p19_ hF.out), (q20_ hF.out)⟩
    refine StepsF.cons (o := _) rfl (ws := [15, 16]) (by kernel_rfl) (by decide) (fun d s b w hF hd hw K_ hK => ?_) ?_
    · have hB : Below W0.heap.size W0 w := (p0_ hF.out)
      have e15 : s 20 = .bool true := (p17_ hF.out) (hw 15 (by decide))
      have e16 : s 21 = .bool true := (p18_ hF.out) (hw 16 (by decide))
      dsimp only
      go_simp
      exact hK.out (ups (ups (ups s 20 (.bool true)) 21 (.bool true)) 22 (.bool true)) b _ ⟨hB, (p1_ hF.out), (p2_ hF.out), (p3_ hF.out), (p4_ hF.out), (p5_ hF.out), (p6_ hF.out), (p7_ hF.out), (p8_ hF.out), (p9_ hF.out), (p10_ hF.out), (p11_ hF.out), (p12_ hF.out), (p13_ hF.out), (p14_ hF.out), (p15_ hF.out), (p16_ hF.out), (fun _ => rfl), (fun _ => rfl), (fun _ => rfl), (q20_ hF.out)⟩
    refine StepsF.cons (o := _) rfl (ws := [17, 16, 0, 1, 2, 3, 4, 5, 6, 7, 8, 9, 10, 11, 12, 13, 14, 15, 16, 17]) (by kernel_rfl) (by decide) (fun d s b w hF hd hw K_ hK => ?_) ?_
    · have hB : Below W0.heap.size W0 w := (p0_ hF.out)
      have e0 : s 5 = .slice q n c := (p1_ hF.out) (hw 0 (by decide))
      have e1 : s 6 = .slice q m c := (p2_ hF.out) (hw 1 (by decide))
      have e2 : s 7 = .slice (some ⟨(b 2), 0, none⟩) 1 1 := ((p3_ hF.out) (hw 2 (by decide))).1
      have le2 : W0.heap.size ≤ b 2 := ((p3_ hF.out) (hw 2 (by decide))).2
      have e3 : s 8 = (.agg (nums .u8 sf 32).toArray) := (p5_ hF.out) (hw 3 (by decide))
      have e4 : s 9 = .slice q n c := (p6_ hF.out) (hw 4 (by decide))
      have e5 : s 10 = .slice q m c := (p7_ hF.out) (hw 5 (by decide))
      have e6 : s 11 = (.agg (nums .u8 sf 32).toArray) := (p8_ hF.out) (hw 6 (by decide))
      have e7 : s 12 = .bool true := (p9_ hF.out) (hw 7 (by decide))
      have e8 : s 13 = .bool true := (p10_ hF.out) (hw 8 (by decide))
      have e9 : s 14 = (.agg (nums .u8 f 32).toArray) := (p11_ hF.out) (hw 9 (by decide))
      have e10 : s 15 = .string S_ := (p12_ hF.out) (hw 10 (by decide))
      have e11 : s 16 = (.agg (nums .u8 f 32).toArray) := (p13_ hF.out) (hw 11 (by decide))
      have e12 : s 17 = .string S_ := (p14_ hF.out) (hw 12 (by decide))
      have e13 : s 18 = .bool true := (p15_ hF.out) (hw 13 (by decide))
      have e14 : s 19 = .bool true := (p16_ hF.out) (hw 14 (by decide))
      have e15 : s 20 = .bool true := (p17_ hF.out) (hw 15 (by decide))
      have e16 : s 21 = .bool true := (p18_ hF.out) (hw 16 (by decide))
      have e17 : s 22 = .bool true := (p19_ hF.out) (hw 17 (by decide))
      dsimp only
      go_simp
      exact hK.out (ups (ups (ups (ups (ups (ups (ups (ups (ups (ups (ups (ups (ups (ups (ups (ups (ups (ups (ups s 5 (.slice q n c)) 6 (.slice q m c)) 7 (.slice (some ⟨(b 2), 0, none⟩) 1 1)) 8 ((.agg (nums .u8 sf 32).toArray))) 9 (.slice q n c)) 10 (.slice q m c)) 11 ((.agg (nums .u8 sf 32).toArray))) 12 (.bool true)) 13 (.bool true)) 14 ((.agg (nums .u8 f 32).toArray))) 15 (.string S_)) 16 ((.agg (nums .u8 f 32).toArray))) 17 (.string S_)) 18 (.bool true)) 19 (.bool true)) 20 (.bool true)) 21 (.bool true)) 22 (.bool true)) 4 (.bool true)) b _ ⟨hB, (fun _ => rfl), (fun _ => rfl), (fun _ => ⟨rfl, le2⟩), (p4_ hF.out), (fun _ => rfl), (fun _ => rfl), (fun _ => rfl), (fun _ => rfl), (fun _ => rfl), (fun _ => rfl), (fun _ => rfl), (fun _ => rfl), (fun _ => rfl), (fun _ => rfl), (fun _ => rfl), (fun _ => rfl), (fun _ => rfl), (fun _ => rfl), (fun _ => rfl), (fun _ => rfl)⟩
    exact StepsF.nil
  intro d s b y1 hF hall
  replace hF := Lib.hid hF
  have hB : Below W0.heap.size W0 y1 := (p0_ hF.out)
  try dsimp only
  have e0 : s 5 = .slice q n c := (p1_ hF.out) (hall 0 (by decide))
  have e1 : s 6 = .slice q m c := (p2_ hF.out) (hall 1 (by decide))
  have e2 : s 7 = .slice (some ⟨(b 2), 0, none⟩) 1 1 := ((p3_ hF.out) (hall 2 (by decide))).1
  have le2 : W0.heap.size ≤ b 2 := ((p3_ hF.out) (hall 2 (by decide))).2
  have e3 : s 8 = (.agg (nums .u8 sf 32).toArray) := (p5_ hF.out) (hall 3 (by decide))
  have e4 : s 9 = .slice q n c := (p6_ hF.out) (hall 4 (by decide))
  have e5 : s 10 = .slice q m c := (p7_ hF.out) (hall 5 (by decide))
  have e6 : s 11 = (.agg (nums .u8 sf 32).toArray) := (p8_ hF.out) (hall 6 (by decide))
  have e7 : s 12 = .bool true := (p9_ hF.out) (hall 7 (by decide))
  have e8 : s 13 = .bool true := (p10_ hF.out) (hall 8 (by decide))
  have e9 : s 14 = (.agg (nums .u8 f 32).toArray) := (p11_ hF.out) (hall 9 (by decide))
  have e10 : s 15 = .string S_ := (p12_ hF.out) (hall 10 (by decide))
  have e11 : s 16 = (.agg (nums .u8 f 32).toArray) := (p13_ hF.out) (hall 11 (by decide))
  have e12 : s 17 = .string S_ := (p14_ hF.out) (hall 12 (by decide))
  have e13 : s 18 = .bool true := (p15_ hF.out) (hall 13 (by decide))
  have e14 : s 19 = .bool true := (p16_ hF.out) (hall 14 (by decide))
  have e15 : s 20 = .bool true := (p17_ hF.out) (hall 15 (by decide))
  have e16 : s 21 = .bool true := (p18_ hF.out) (hall 16 (by decide))
  have e17 : s 22 = .bool true := (p19_ hF.out) (hall 17 (by decide))
  have e18 : s 4 = .bool true := (q20_ hF.out) (hall 18 (by decide))
  rw [e0, e1, e2, e3, e4, e5, e6, e7, e8, e9, e10, e11, e12, e13, e14, e15, e16, e17, e18]
  clear hall hF e0 e1 e2 e3 e4 e5 e6 e7 e8 e9 e10 e11 e12 e13 e14 e15 e16 e17 e18
  obtain ⟨L, hz⟩ : ∃ x, x = b 2 := ⟨_, rfl⟩
  rw [← hz] at le2 ⊢
  clear hz
  clear d s b
  go_wp2_with (fail)
  go_ret
  exact ⟨rfl, Below.go hB0 hB⟩
end Go.Proofs.YtajejlaoompieaaDoor
