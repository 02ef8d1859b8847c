/- poly.Mac's Add and Sum. -/
import Derived.Test.YtbofihejegbfhaaNZe
import Derived.Test.YtbofihejegbfhaaCU
import Derived.Lib.Hide
import Derived.Deep.Onto
namespace Go.Proofs.Ytbofihejegbfhaa
set_option linter.unusedVariables false
set_option maxRecDepth 2000
set_option linter.unusedSimpArgs false
open Go.RowKit
theorem macL_key {K : Nat} {kf : Nat → Int} {v : Value} {W : World} (h : Own K (macL kf v) W) : Has K 0 (nums .u8 kf 32) W := ⟨h.lt, fun j u hj => h.has.cell j u (by
  have hj' := (List.getElem?_eq_some_iff.1 hj).1
  rw [macL, List.getElem?_append_left hj']; exact hj)⟩
attribute [local go_sem] nums_length
theorem macL_made (kf : Nat → Int) (v : Value) : (macL kf v)[32]? = some (.bool true) := by simp [macL, nums]
theorem macL_data (kf : Nat → Int) (v : Value) : (macL kf v)[33]? = some v := by simp [macL, nums]

theorem macL_kept {K : Nat} {kf : Nat → Int} {v : Value} {W : World} (h : Own K (macL kf v) W) : Has K 33 [v] W := ⟨h.lt, fun j u hj => by
  have hj' : j = 0 := by have := (List.getElem?_eq_some_iff.1 hj).1; simp at this; exact this
  subst hj'
  have := h.has.cell 33 _ (macL_data kf v)
  simp at hj; subst hj; simpa using this⟩

set_option maxHeartbeats 4000000 in
theorem Sum_any (kf f : Nat → Int) (K : Nat) (p : Option Addr) (n c : Nat) (hk : ∀ i, i < 32 → inB (kf i)) (hf : ∀ i, i < n → inB (f i)) (hn : n ≤ 65536) (hnc : n ≤ c) (hc : c ≤ 9223372036854775807) (w : World) (hK : Own K (macL kf (.slice p n c)) w) (hb : Byt w p n f) :
    Calls Try.prog 8 #[.pointer (some ⟨K, 0, none⟩)] w fun e w' => e = .returned (.agg (nums .u8 (byt (tagN kf f n)) 16).toArray) ∧ Below w.heap.size w w' := by
  have HK := Lib.hid hK; have HB := Lib.hid hb; have KB := Lib.hid hk; have FB := Lib.hid hf; have N6 := Lib.hid hn; have N1 := Lib.hid hnc; have C2 := Lib.hid hc
  have KL := hK.lt
  clear hk hf hn hnc hc hK hb
  go_enter Try.func8, Try.ntmps8
  go_upto_region 1 with fail
  obtain ⟨W0, hW⟩ : ∃ W0, W0 = w.alloc (.cells #[.int .u8 0, .int .u8 0, .int .u8 0, .int .u8 0, .int .u8 0, .int .u8 0, .int .u8 0, .int .u8 0, .int .u8 0, .int .u8 0, .int .u8 0, .int .u8 0, .int .u8 0, .int .u8 0, .int .u8 0, .int .u8 0] 29) := ⟨_, rfl⟩
  have hB0 : Below w.heap.size w W0 := hW ▸ Below.al (Below.refl _ _)
  have HR : Hid (Own w.heap.size (nums .u8 (fun _ => 0) 16) W0) := Lib.hid (hW ▸ Own.newAt (by simp))
  have HK0 := Lib.hid (HK.out.later hB0)
  have HB0 := Lib.hid (HB.out.later hB0)
  rw [← hW]
  clear hW HK HB
  have x0 := HK0.out.at 32 _ (macL_made kf _)
  obtain ⟨R, eR⟩ : ∃ X, X = w.heap.size := ⟨_, rfl⟩
  rw [← eR] at HR ⊢
  have TG := Lib.hid (fun w => tag_any kf f K 33 p n c KB.out FB.out N6.out N1.out C2.out w)
  obtain ⟨T_, eT⟩ : ∃ x, tagN kf f n = x := ⟨_, rfl⟩
  rw [eT] at TG
  have ET := Lib.hid eT
  clear eT
  have Rw : w.heap.size ≤ R := by omega
  clear eR
  go_upto_region 3 with fail
  refine wp_region_fun 9 (by kernel_rfl) (by kernel_rfl) rfl (fun s b => ⟨#[.pointer (some ⟨K, 0, none⟩), undef, .pointer (some ⟨R, 0, none⟩), .pointer (some ⟨K, 0, none⟩), .bool false, .bool false, .pointer (some ⟨K, 0, none⟩), .pointer (some ⟨K, 0, none⟩), .pointer (some ⟨K, 32, none⟩), .bool true, .bool false, .bool false, undef, s 13, s 14, s 15, s 16, s 17, s 18, s 19, s 20], []⟩) (fun d s b w => (d 8 = false → Below W0.heap.size W0 w) ∧ (d 0 = true → s 13 = .pointer (some ⟨K, 0, none⟩)) ∧ (d 1 = true → s 14 = .pointer (some ⟨K, 0, none⟩)) ∧ (d 2 = true → s 15 = .pointer (some ⟨K, 33, none⟩)) ∧ (d 3 = true → s 16 = .pointer (some ⟨K, 0, none⟩)) ∧ (d 4 = true → s 17 = .pointer (some ⟨K, 0, none⟩)) ∧ (d 5 = true → s 18 = .pointer (some ⟨K, 0, none⟩)) ∧ (d 6 = true → s 19 = .agg (nums .u8 kf 32).toArray) ∧ (d 7 = true → s 20 = .agg (nums .u8 (byt T_) 16).toArray) ∧ (d 8 = true → ∀ j, j < 8 → d j = true) ∧ (d 8 = true → ∃ w2, Below W0.heap.size W0 w2 ∧ w = w2.setCells R 0 (nums .u8 (byt T_) 16))) rfl ?h0z2 (?stz2 : StepsF _ _ _ _ 9 _ _ [0, 1, 2, 3, 4, 5, 6, 7, 8]) ?dnz2
  case h0z2 => exact ⟨fun _ => Below.drew (Below.refl _ _), (fun h => nomatch h), (fun h => nomatch h), (fun h => nomatch h), (fun h => nomatch h), (fun h => nomatch h), (fun h => nomatch h), (fun h => nomatch h), (fun h => nomatch h), (fun h => nomatch h), (fun h => nomatch h)⟩
  case stz2 =>
    refine StepsF.cons (o := _) rfl (ws := []) (by kernel_rfl) (by decide) (fun d s b w hF hd hw K_ hK => ?_) ?_
    · have hk : d 8 = false := by cases e : d 8 with | false => rfl | true => exact absurd ((p9_ hF.out) e 0 (by decide)) (by simp [hd])
      have hB : Below W0.heap.size W0 w := (p0_ hF.out) hk
      dsimp only
      go_simp
      exact hK.out (ups s 13 (.pointer (some ⟨K, 0, none⟩))) b _ ⟨(fun _ => hB), (fun _ => rfl), (p2_ hF.out), (p3_ hF.out), (p4_ hF.out), (p5_ hF.out), (p6_ hF.out), (p7_ hF.out), (p8_ hF.out), (fun h => absurd ((p9_ hF.out) h 0 (by decide)) (by simp [hd])), (fun h => absurd ((p9_ hF.out) h 0 (by decide)) (by simp [hd]))⟩
    refine StepsF.cons (o := _) rfl (ws := [0]) (by kernel_rfl) (by decide) (fun d s b w hF hd hw K_ hK => ?_) ?_
    · have hk : d 8 = false := by cases e : d 8 with | false => rfl | true => exact absurd ((p9_ hF.out) e 1 (by decide)) (by simp [hd])
      have hB : Below W0.heap.size W0 w := (p0_ hF.out) hk
      have e0 : s 13 = .pointer (some ⟨K, 0, none⟩) := (p1_ hF.out) (hw 0 (by decide))
      dsimp only
      go_simp
      exact hK.out (ups (ups s 13 (.pointer (some ⟨K, 0, none⟩))) 14 (.pointer (some ⟨K, 0, none⟩))) b _ ⟨(fun _ => hB), (fun _ => rfl), (fun _ => rfl), (p3_ hF.out), (p4_ hF.out), (p5_ hF.out), (p6_ hF.out), (p7_ hF.out), (p8_ hF.out), (fun h => absurd ((p9_ hF.out) h 1 (by decide)) (by simp [hd])), (fun h => absurd ((p9_ hF.out) h 1 (by decide)) (by simp [hd]))⟩
    refine StepsF.cons (o := _) rfl (ws := [1]) (by kernel_rfl) (by decide) (fun d s b w hF hd hw K_ hK => ?_) ?_
    · have hk : d 8 = false := by cases e : d 8 with | false => rfl | true => exact absurd ((p9_ hF.out) e 2 (by decide)) (by simp [hd])
      have hB : Below W0.heap.size W0 w := (p0_ hF.out) hk
      have e1 : s 14 = .pointer (some ⟨K, 0, none⟩) := (p2_ hF.out) (hw 1 (by decide))
      dsimp only
      go_simp
      exact hK.out (ups (ups s 14 (.pointer (some ⟨K, 0, none⟩))) 15 (.pointer (some ⟨K, 33, none⟩))) b _ ⟨(fun _ => hB), (p1_ hF.out), (fun _ => rfl), (fun _ => rfl), (p4_ hF.out), (p5_ hF.out), (p6_ hF.out), (p7_ hF.out), (p8_ hF.out), (fun h => absurd ((p9_ hF.out) h 2 (by decide)) (by simp [hd])), (fun h => absurd ((p9_ hF.out) h 2 (by decide)) (by simp [hd]))⟩
    refine StepsF.cons (o := _) rfl (ws := []) (by kernel_rfl) (by decide) (fun d s b w hF hd hw K_ hK => ?_) ?_
    · have hk : d 8 = false := by cases e : d 8 with | false => rfl | true => exact absurd ((p9_ hF.out) e 3 (by decide)) (by simp [hd])
      have hB : Below W0.heap.size W0 w := (p0_ hF.out) hk
      dsimp only
      go_simp
      exact hK.out (ups s 16 (.pointer (some ⟨K, 0, none⟩))) b _ ⟨(fun _ => hB), (p1_ hF.out), (p2_ hF.out), (p3_ hF.out), (fun _ => rfl), (p5_ hF.out), (p6_ hF.out), (p7_ hF.out), (p8_ hF.out), (fun h => absurd ((p9_ hF.out) h 3 (by decide)) (by simp [hd])), (fun h => absurd ((p9_ hF.out) h 3 (by decide)) (by simp [hd]))⟩
    refine StepsF.cons (o := _) rfl (ws := [3]) (by kernel_rfl) (by decide) (fun d s b w hF hd hw K_ hK => ?_) ?_
    · have hk : d 8 = false := by cases e : d 8 with | false => rfl | true => exact absurd ((p9_ hF.out) e 4 (by decide)) (by simp [hd])
      have hB : Below W0.heap.size W0 w := (p0_ hF.out) hk
      have e3 : s 16 = .pointer (some ⟨K, 0, none⟩) := (p4_ hF.out) (hw 3 (by decide))
      dsimp only
      go_simp
      exact hK.out (ups (ups s 16 (.pointer (some ⟨K, 0, none⟩))) 17 (.pointer (some ⟨K, 0, none⟩))) b _ ⟨(fun _ => hB), (p1_ hF.out), (p2_ hF.out), (p3_ hF.out), (fun _ => rfl), (fun _ => rfl), (p6_ hF.out), (p7_ hF.out), (p8_ hF.out), (fun h => absurd ((p9_ hF.out) h 4 (by decide)) (by simp [hd])), (fun h => absurd ((p9_ hF.out) h 4 (by decide)) (by simp [hd]))⟩
    refine StepsF.cons (o := _) rfl (ws := [4]) (by kernel_rfl) (by decide) (fun d s b w hF hd hw K_ hK => ?_) ?_
    · have hk : d 8 = false := by cases e : d 8 with | false => rfl | true => exact absurd ((p9_ hF.out) e 5 (by decide)) (by simp [hd])
      have hB : Below W0.heap.size W0 w := (p0_ hF.out) hk
      have e4 : s 17 = .pointer (some ⟨K, 0, none⟩) := (p5_ hF.out) (hw 4 (by decide))
      dsimp only
      go_simp
      exact hK.out (ups (ups s 17 (.pointer (some ⟨K, 0, none⟩))) 18 (.pointer (some ⟨K, 0, none⟩))) b _ ⟨(fun _ => hB), (p1_ hF.out), (p2_ hF.out), (p3_ hF.out), (p4_ hF.out), (fun _ => rfl), (fun _ => rfl), (p7_ hF.out), (p8_ hF.out), (fun h => absurd ((p9_ hF.out) h 5 (by decide)) (by simp [hd])), (fun h => absurd ((p9_ hF.out) h 5 (by decide)) (by simp [hd]))⟩
    refine StepsF.cons (o := _) rfl (ws := [5]) (by kernel_rfl) (by decide) (fun d s b w hF hd hw K_ hK => ?_) ?_
    · have hk : d 8 = false := by cases e : d 8 with | false => rfl | true => exact absurd ((p9_ hF.out) e 6 (by decide)) (by simp [hd])
      have hB : Below W0.heap.size W0 w := (p0_ hF.out) hk
      have e5 : s 18 = .pointer (some ⟨K, 0, none⟩) := (p6_ hF.out) (hw 5 (by decide))
      refine step_load (by simp [Region.wanted]) 22 _ rfl K 0 e5 (nums .u8 kf 32) _ (macL_key (HK0.out.later hB)).cell Try.underlying22 rfl (by kernel_rfl) ?_
      exact hK.out (ups s 19 (.agg (nums .u8 kf 32).toArray)) b _ ⟨(fun _ => hB), (p1_ hF.out), (p2_ hF.out), (p3_ hF.out), (p4_ hF.out), (p5_ hF.out), (p6_ hF.out), (fun _ => rfl), (p8_ hF.out), (fun h => absurd ((p9_ hF.out) h 6 (by decide)) (by simp [hd])), (fun h => absurd ((p9_ hF.out) h 6 (by decide)) (by simp [hd]))⟩
    refine StepsF.cons (o := _) rfl (ws := [2, 6]) (by kernel_rfl) (by decide) (fun d s b w hF hd hw K_ hK => ?_) ?_
    · have hk : d 8 = false := by cases e : d 8 with | false => rfl | true => exact absurd ((p9_ hF.out) e 7 (by decide)) (by simp [hd])
      have hB : Below W0.heap.size W0 w := (p0_ hF.out) hk
      have e2 : s 15 = .pointer (some ⟨K, 33, none⟩) := (p3_ hF.out) (hw 2 (by decide))
      have e6 : s 19 = .agg (nums .u8 kf 32).toArray := (p7_ hF.out) (hw 6 (by decide))
      dsimp only
      go_simp
      go_at_call 17
      refine (TG.out _ (macL_kept (HK0.out.later hB)) (HB0.out.later hB)).mono ?_
      rintro e w1 ⟨rfl, hb⟩
      exact hK.out (ups (ups (ups s 15 (.pointer (some ⟨K, 33, none⟩))) 19 (.agg (nums .u8 kf 32).toArray)) 20 (.agg (nums .u8 (byt T_) 16).toArray)) b _ ⟨(fun _ => (Below.go hB hb)), (p1_ hF.out), (p2_ hF.out), (fun _ => rfl), (p4_ hF.out), (p5_ hF.out), (p6_ hF.out), (fun _ => rfl), (fun _ => rfl), (fun h => absurd ((p9_ hF.out) h 7 (by decide)) (by simp [hd])), (fun h => absurd ((p9_ hF.out) h 7 (by decide)) (by simp [hd]))⟩
    refine StepsF.cons (o := _) rfl (ws := [7, 7, 0, 1, 2, 3, 4, 5, 6, 7]) (by kernel_rfl) (by decide) (fun d s b w hF hd hw K_ hK => ?_) ?_
    · have hB : Below W0.heap.size W0 w := (p0_ hF.out) hd
      have e0 : s 13 = .pointer (some ⟨K, 0, none⟩) := (p1_ hF.out) (hw 0 (by decide))
      have e1 : s 14 = .pointer (some ⟨K, 0, none⟩) := (p2_ hF.out) (hw 1 (by decide))
      have e2 : s 15 = .pointer (some ⟨K, 33, none⟩) := (p3_ hF.out) (hw 2 (by decide))
      have e3 : s 16 = .pointer (some ⟨K, 0, none⟩) := (p4_ hF.out) (hw 3 (by decide))
      have e4 : s 17 = .pointer (some ⟨K, 0, none⟩) := (p5_ hF.out) (hw 4 (by decide))
      have e5 : s 18 = .pointer (some ⟨K, 0, none⟩) := (p6_ hF.out) (hw 5 (by decide))
      have e6 : s 19 = .agg (nums .u8 kf 32).toArray := (p7_ hF.out) (hw 6 (by decide))
      have e7 : s 20 = .agg (nums .u8 (byt T_) 16).toArray := (p8_ hF.out) (hw 7 (by decide))
      dsimp only
      have oz := HR.out.later hB
      have hst := store_nums (P := Try.prog) (n := 16) .u8 (byt T_) oz rfl
      have oX := HR.out.later hB
      clear oX
      go_simp
      exact hK.out (ups (ups (ups (ups (ups (ups (ups (ups s 13 (.pointer (some ⟨K, 0, none⟩))) 14 (.pointer (some ⟨K, 0, none⟩))) 15 (.pointer (some ⟨K, 33, none⟩))) 16 (.pointer (some ⟨K, 0, none⟩))) 17 (.pointer (some ⟨K, 0, none⟩))) 18 (.pointer (some ⟨K, 0, none⟩))) 19 (.agg (nums .u8 kf 32).toArray)) 20 (.agg (nums .u8 (byt T_) 16).toArray)) b _ ⟨(fun h => nomatch h), (fun _ => rfl), (fun _ => rfl), (fun _ => rfl), (fun _ => rfl), (fun _ => rfl), (fun _ => rfl), (fun _ => rfl), (fun _ => rfl), (fun _ j hj => by have hj2 := hw j (by simp; omega); simp [upd, hj2]), (fun _ => ⟨w, hB, rfl⟩)⟩
    exact StepsF.nil
  intro d s b z2 hF hall
  replace hF := Lib.hid hF
  obtain ⟨z2, hB, rfl⟩ := (q10_ hF.out) (hall 8 (by decide))
  try dsimp only
  have e0 : s 13 = .pointer (some ⟨K, 0, none⟩) := (p1_ hF.out) (hall 0 (by decide))
  have e1 : s 14 = .pointer (some ⟨K, 0, none⟩) := (p2_ hF.out) (hall 1 (by decide))
  have e2 : s 15 = .pointer (some ⟨K, 33, none⟩) := (p3_ hF.out) (hall 2 (by decide))
  have e3 : s 16 = .pointer (some ⟨K, 0, none⟩) := (p4_ hF.out) (hall 3 (by decide))
  have e4 : s 17 = .pointer (some ⟨K, 0, none⟩) := (p5_ hF.out) (hall 4 (by decide))
  have e5 : s 18 = .pointer (some ⟨K, 0, none⟩) := (p6_ hF.out) (hall 5 (by decide))
  have e6 : s 19 = .agg (nums .u8 kf 32).toArray := (p7_ hF.out) (hall 6 (by decide))
  have e7 : s 20 = .agg (nums .u8 (byt T_) 16).toArray := (p8_ hF.out) (hall 7 (by decide))
  rw [e0, e1, e2, e3, e4, e5, e6, e7]
  clear hall hF e0 e1 e2 e3 e4 e5 e6 e7
  clear d s b
  have HR1 := Lib.hid (Own.store (vs := nums .u8 (byt T_) 16) (HR.out.later hB) rfl)
  have hB1 := Below.setCells (Below.go hB0 hB) Rw (nums .u8 (byt T_) 16) 0
  go_wp2_with (fail)
  have hL := run_loadVar_mid (P := Try.prog) _ R 0 29 (nums .u8 (byt T_) 16) _ HR1.out.cell Try.underlying29 rfl (by kernel_rfl)
  exact bodyPost_ret (v := .agg (nums .u8 (byt T_) 16).toArray) (res_cell Try.results8 rfl hL) rfl ⟨by rw [ET.out], hB1⟩
end Go.Proofs.Ytbofihejegbfhaa
