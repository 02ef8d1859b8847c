/- affine.columns, fromColumns, Axes, Same, Move. -/
import Derived.Test.YtgggngcgcpmkbaaKA
import Derived.Test.YtgggngcgcpmkbaaVN
import Derived.Deep.DeepCutAuto
namespace Go.Proofs.Ytgggngcgcpmkbaa
set_option linter.unusedVariables false
set_option maxRecDepth 2000
set_option linter.unusedSimpArgs false
open Go.RowKit
attribute [local go_sem] setCell_twice setCell_pair

set_option maxHeartbeats 2000000 in
theorem columns_any (m0 m1 m2 m3 m4 m5 m6 m7 m8 tx ty tz : Int) (w : World) : Calls Try.prog 106 #[(.agg #[.int .i64 m0, .int .i64 m1, .int .i64 m2, .int .i64 m3, .int .i64 m4, .int .i64 m5, .int .i64 m6, .int .i64 m7, .int .i64 m8, .int .i64 tx, .int .i64 ty, .int .i64 tz])] w fun e w' => e = .returned (.agg #[.int .i64 m0, .int .i64 m3, .int .i64 m6, .int .i64 m1, .int .i64 m4, .int .i64 m7, .int .i64 m2, .int .i64 m5, .int .i64 m8, .int .i64 tx, .int .i64 ty, .int .i64 tz]) ∧ Below w.heap.size w w' := by
  go_enter Try.func106, Try.ntmps106
  go_wp2_with (fail)
  exact bodyPost_ret (v := (.agg #[.int .i64 m0, .int .i64 m3, .int .i64 m6, .int .i64 m1, .int .i64 m4, .int .i64 m7, .int .i64 m2, .int .i64 m5, .int .i64 m8, .int .i64 tx, .int .i64 ty, .int .i64 tz])) (by simp [results, Try.results106, go_sem]) rfl ⟨rfl, by repeat (first | (with_reducible exact Below.refl _ _) | (with_reducible refine Below.al ?_) | (with_reducible refine Below.setCell ?_ (by simp) _))⟩

set_option maxHeartbeats 4000000 in
theorem fromColumns_any (u0 u1 u2 u3 u4 u5 u6 u7 u8 u9 u10 u11 : Int) (w : World) : Calls Try.prog 89 #[(.agg #[.int .i64 u0, .int .i64 u1, .int .i64 u2, .int .i64 u3, .int .i64 u4, .int .i64 u5, .int .i64 u6, .int .i64 u7, .int .i64 u8, .int .i64 u9, .int .i64 u10, .int .i64 u11])] w fun e w' => e = .returned (.agg #[.int .i64 u0, .int .i64 u3, .int .i64 u6, .int .i64 u1, .int .i64 u4, .int .i64 u7, .int .i64 u2, .int .i64 u5, .int .i64 u8, .int .i64 u9, .int .i64 u10, .int .i64 u11]) ∧ Below w.heap.size w w' := by
  go_enter Try.func89, Try.ntmps89
  go_wp2_with (fail)
  obtain ⟨W0, hW⟩ : ∃ W0, W0 = ((w.alloc (.cells #[.int .i64 u0, .int .i64 u1, .int .i64 u2, .int .i64 u3, .int .i64 u4, .int .i64 u5, .int .i64 u6, .int .i64 u7, .int .i64 u8, .int .i64 u9, .int .i64 u10, .int .i64 u11] 127)).alloc (.cells #[.int .i64 0, .int .i64 0, .int .i64 0, .int .i64 0, .int .i64 0, .int .i64 0, .int .i64 0, .int .i64 0, .int .i64 0, .int .i64 0, .int .i64 0, .int .i64 0] 80)) := ⟨_, rfl⟩
  have hB0 : Below w.heap.size w W0 := hW ▸ (Below.al (Below.al (Below.refl _ _)))
  have HA : Hid (Own w.heap.size [.int .i64 u0, .int .i64 u1, .int .i64 u2, .int .i64 u3, .int .i64 u4, .int .i64 u5, .int .i64 u6, .int .i64 u7, .int .i64 u8, .int .i64 u9, .int .i64 u10, .int .i64 u11] W0) := Lib.hid (hW ▸ (Own.newAt (by simp)).alloc)
  have HR : Hid (Own (w.heap.size + 1) [.int .i64 0, .int .i64 0, .int .i64 0, .int .i64 0, .int .i64 0, .int .i64 0, .int .i64 0, .int .i64 0, .int .i64 0, .int .i64 0, .int .i64 0, .int .i64 0] W0) := Lib.hid (hW ▸ (Own.newAt (by simp)))
  rw [← hW]
  clear hW
  obtain ⟨R, eR⟩ : ∃ X, X = (w.heap.size + 1) := ⟨_, rfl⟩
  rw [← eR] at HR ⊢
  have Rw : w.heap.size ≤ R := by omega
  obtain ⟨A, eA⟩ : ∃ X, X = w.heap.size := ⟨_, rfl⟩
  rw [← eA] at HA ⊢
  have Aw : w.heap.size ≤ A := by omega
  have nAR : A ≠ R := by omega
  have nRA : R ≠ A := by omega
  clear eA eR
  refine wp_region_fun 12 (by kernel_rfl) (by kernel_rfl) rfl (fun s b => ⟨#[(.agg #[.int .i64 u0, .int .i64 u1, .int .i64 u2, .int .i64 u3, .int .i64 u4, .int .i64 u5, .int .i64 u6, .int .i64 u7, .int .i64 u8, .int .i64 u9, .int .i64 u10, .int .i64 u11]), .pointer (some ⟨A, 0, none⟩), .pointer (some ⟨R, 0, none⟩), s 3, s 4, s 5, s 6, s 7, s 8, s 9, s 10, s 11, undef, undef, undef, undef, undef, undef, undef, undef, undef, undef, undef, undef, undef, undef, undef, undef, undef, undef, undef, undef, undef, undef], []⟩) (fun d s b w => (Below W0.heap.size W0 w) ∧ (d 0 = true → s 6 = .pointer (some ⟨A, 0, none⟩)) ∧ (d 1 = true → s 7 = (.agg #[.int .i64 u0, .int .i64 u1, .int .i64 u2])) ∧ (d 2 = true → s 8 = .pointer (some ⟨A, 3, none⟩)) ∧ (d 3 = true → s 9 = (.agg #[.int .i64 u3, .int .i64 u4, .int .i64 u5])) ∧ (d 4 = true → s 10 = .pointer (some ⟨A, 6, none⟩)) ∧ (d 5 = true → s 11 = (.agg #[.int .i64 u6, .int .i64 u7, .int .i64 u8])) ∧ (d 6 = true → s 3 = .pointer (some ⟨(b 6), 0, none⟩) ∧ W0.heap.size ≤ b 6) ∧ (d 6 = true → d 9 = false → Own (b 6) [.int .i64 0, .int .i64 0, .int .i64 0] w) ∧ (d 7 = true → s 4 = .pointer (some ⟨(b 7), 0, none⟩) ∧ W0.heap.size ≤ b 7) ∧ (d 7 = true → d 10 = false → Own (b 7) [.int .i64 0, .int .i64 0, .int .i64 0] w) ∧ (d 8 = true → s 5 = .pointer (some ⟨(b 8), 0, none⟩) ∧ W0.heap.size ≤ b 8) ∧ (d 8 = true → d 11 = false → Own (b 8) [.int .i64 0, .int .i64 0, .int .i64 0] w) ∧ (d 9 = true → Own (b 6) [.int .i64 u0, .int .i64 u1, .int .i64 u2] w) ∧ (d 9 = true → d 6 = true) ∧ (d 10 = true → Own (b 7) [.int .i64 u3, .int .i64 u4, .int .i64 u5] w) ∧ (d 10 = true → d 7 = true) ∧ (d 11 = true → Own (b 8) [.int .i64 u6, .int .i64 u7, .int .i64 u8] w) ∧ (d 11 = true → d 8 = true) ∧ (d 6 = true → d 7 = true → b 6 ≠ b 7) ∧ (d 6 = true → d 8 = true → b 6 ≠ b 8) ∧ (d 7 = true → d 8 = true → b 7 ≠ b 8)) rfl ?h0w1 (?stw1 : StepsF _ _ _ _ 12 _ _ [0, 1, 2, 3, 4, 5, 6, 7, 8, 9, 10, 11]) ?dnw1
  case h0w1 => exact ⟨Below.drew (Below.refl _ _), (fun h => nomatch h), (fun h => nomatch h), (fun h => nomatch h), (fun h => nomatch h), (fun h => nomatch h), (fun h => nomatch h), (fun h => nomatch h), (fun h => nomatch h), (fun h => nomatch h), (fun h => nomatch h), (fun h => nomatch h), (fun h => nomatch h), (fun h => nomatch h), (fun h => nomatch h), (fun h => nomatch h), (fun h => nomatch h), (fun h => nomatch h), (fun h => nomatch h), (fun h => nomatch h), (fun h => nomatch h), (fun h => nomatch h)⟩
  case stw1 =>
    refine StepsF.cons (o := _) rfl (ws := []) (by kernel_rfl) (by decide) (fun d s b w hF hd hw K hK => ?_) ?_
    · have hB : Below W0.heap.size W0 w := (hF.out.1)
      dsimp only
      go_simp
      exact hK.out (ups s 6 (.pointer (some ⟨A, 0, none⟩))) b _ ⟨hB, (fun _ => rfl), (hF.out.2.2.1), (hF.out.2.2.2.1), (hF.out.2.2.2.2.1), (hF.out.2.2.2.2.2.1), (hF.out.2.2.2.2.2.2.1), (hF.out.2.2.2.2.2.2.2.1), (hF.out.2.2.2.2.2.2.2.2.1), (hF.out.2.2.2.2.2.2.2.2.2.1), (hF.out.2.2.2.2.2.2.2.2.2.2.1), (hF.out.2.2.2.2.2.2.2.2.2.2.2.1), (hF.out.2.2.2.2.2.2.2.2.2.2.2.2.1), (hF.out.2.2.2.2.2.2.2.2.2.2.2.2.2.1), (hF.out.2.2.2.2.2.2.2.2.2.2.2.2.2.2.1), (hF.out.2.2.2.2.2.2.2.2.2.2.2.2.2.2.2.1), (hF.out.2.2.2.2.2.2.2.2.2.2.2.2.2.2.2.2.1), (hF.out.2.2.2.2.2.2.2.2.2.2.2.2.2.2.2.2.2.1), (hF.out.2.2.2.2.2.2.2.2.2.2.2.2.2.2.2.2.2.2.1), (hF.out.2.2.2.2.2.2.2.2.2.2.2.2.2.2.2.2.2.2.2.1), (hF.out.2.2.2.2.2.2.2.2.2.2.2.2.2.2.2.2.2.2.2.2.1), (hF.out.2.2.2.2.2.2.2.2.2.2.2.2.2.2.2.2.2.2.2.2.2)⟩
    refine StepsF.cons (o := _) rfl (ws := [0]) (by kernel_rfl) (by decide) (fun d s b w hF hd hw K hK => ?_) ?_
    · have hB : Below W0.heap.size W0 w := (hF.out.1)
      have e0 : s 6 = .pointer (some ⟨A, 0, none⟩) := (hF.out.2.1) (hw 0 (by decide))
      dsimp only
      have oa := HA.out.later hB
      have a0 := oa.at 0 _ rfl
      have a1 := oa.at 1 _ rfl
      have a2 := oa.at 2 _ rfl
      have a3 := oa.at 3 _ rfl
      have a4 := oa.at 4 _ rfl
      have a5 := oa.at 5 _ rfl
      have a6 := oa.at 6 _ rfl
      have a7 := oa.at 7 _ rfl
      have a8 := oa.at 8 _ rfl
      have a9 := oa.at 9 _ rfl
      have a10 := oa.at 10 _ rfl
      have a11 := oa.at 11 _ rfl
      clear oa
      go_simp
      exact hK.out (ups (ups s 6 (.pointer (some ⟨A, 0, none⟩))) 7 ((.agg #[.int .i64 u0, .int .i64 u1, .int .i64 u2]))) b _ ⟨hB, (fun _ => rfl), (fun _ => rfl), (hF.out.2.2.2.1), (hF.out.2.2.2.2.1), (hF.out.2.2.2.2.2.1), (hF.out.2.2.2.2.2.2.1), (hF.out.2.2.2.2.2.2.2.1), (hF.out.2.2.2.2.2.2.2.2.1), (hF.out.2.2.2.2.2.2.2.2.2.1), (hF.out.2.2.2.2.2.2.2.2.2.2.1), (hF.out.2.2.2.2.2.2.2.2.2.2.2.1), (hF.out.2.2.2.2.2.2.2.2.2.2.2.2.1), (hF.out.2.2.2.2.2.2.2.2.2.2.2.2.2.1), (hF.out.2.2.2.2.2.2.2.2.2.2.2.2.2.2.1), (hF.out.2.2.2.2.2.2.2.2.2.2.2.2.2.2.2.1), (hF.out.2.2.2.2.2.2.2.2.2.2.2.2.2.2.2.2.1), (hF.out.2.2.2.2.2.2.2.2.2.2.2.2.2.2.2.2.2.1), (hF.out.2.2.2.2.2.2.2.2.2.2.2.2.2.2.2.2.2.2.1), (hF.out.2.2.2.2.2.2.2.2.2.2.2.2.2.2.2.2.2.2.2.1), (hF.out.2.2.2.2.2.2.2.2.2.2.2.2.2.2.2.2.2.2.2.2.1), (hF.out.2.2.2.2.2.2.2.2.2.2.2.2.2.2.2.2.2.2.2.2.2)⟩
    refine StepsF.cons (o := _) rfl (ws := []) (by kernel_rfl) (by decide) (fun d s b w hF hd hw K hK => ?_) ?_
    · have hB : Below W0.heap.size W0 w := (hF.out.1)
      dsimp only
      go_simp
      exact hK.out (ups s 8 (.pointer (some ⟨A, 3, none⟩))) b _ ⟨hB, (hF.out.2.1), (hF.out.2.2.1), (fun _ => rfl), (hF.out.2.2.2.2.1), (hF.out.2.2.2.2.2.1), (hF.out.2.2.2.2.2.2.1), (hF.out.2.2.2.2.2.2.2.1), (hF.out.2.2.2.2.2.2.2.2.1), (hF.out.2.2.2.2.2.2.2.2.2.1), (hF.out.2.2.2.2.2.2.2.2.2.2.1), (hF.out.2.2.2.2.2.2.2.2.2.2.2.1), (hF.out.2.2.2.2.2.2.2.2.2.2.2.2.1), (hF.out.2.2.2.2.2.2.2.2.2.2.2.2.2.1), (hF.out.2.2.2.2.2.2.2.2.2.2.2.2.2.2.1), (hF.out.2.2.2.2.2.2.2.2.2.2.2.2.2.2.2.1), (hF.out.2.2.2.2.2.2.2.2.2.2.2.2.2.2.2.2.1), (hF.out.2.2.2.2.2.2.2.2.2.2.2.2.2.2.2.2.2.1), (hF.out.2.2.2.2.2.2.2.2.2.2.2.2.2.2.2.2.2.2.1), (hF.out.2.2.2.2.2.2.2.2.2.2.2.2.2.2.2.2.2.2.2.1), (hF.out.2.2.2.2.2.2.2.2.2.2.2.2.2.2.2.2.2.2.2.2.1), (hF.out.2.2.2.2.2.2.2.2.2.2.2.2.2.2.2.2.2.2.2.2.2)⟩
    refine StepsF.cons (o := _) rfl (ws := [2]) (by kernel_rfl) (by decide) (fun d s b w hF hd hw K hK => ?_) ?_
    · have hB : Below W0.heap.size W0 w := (hF.out.1)
      have e2 : s 8 = .pointer (some ⟨A, 3, none⟩) := (hF.out.2.2.2.1) (hw 2 (by decide))
      dsimp only
      have oa := HA.out.later hB
      have a0 := oa.at 0 _ rfl
      have a1 := oa.at 1 _ rfl
      have a2 := oa.at 2 _ rfl
      have a3 := oa.at 3 _ rfl
      have a4 := oa.at 4 _ rfl
      have a5 := oa.at 5 _ rfl
      have a6 := oa.at 6 _ rfl
      have a7 := oa.at 7 _ rfl
      have a8 := oa.at 8 _ rfl
      have a9 := oa.at 9 _ rfl
      have a10 := oa.at 10 _ rfl
      have a11 := oa.at 11 _ rfl
      clear oa
      go_simp
      exact hK.out (ups (ups s 8 (.pointer (some ⟨A, 3, none⟩))) 9 ((.agg #[.int .i64 u3, .int .i64 u4, .int .i64 u5]))) b _ ⟨hB, (hF.out.2.1), (hF.out.2.2.1), (fun _ => rfl), (fun _ => rfl), (hF.out.2.2.2.2.2.1), (hF.out.2.2.2.2.2.2.1), (hF.out.2.2.2.2.2.2.2.1), (hF.out.2.2.2.2.2.2.2.2.1), (hF.out.2.2.2.2.2.2.2.2.2.1), (hF.out.2.2.2.2.2.2.2.2.2.2.1), (hF.out.2.2.2.2.2.2.2.2.2.2.2.1), (hF.out.2.2.2.2.2.2.2.2.2.2.2.2.1), (hF.out.2.2.2.2.2.2.2.2.2.2.2.2.2.1), (hF.out.2.2.2.2.2.2.2.2.2.2.2.2.2.2.1), (hF.out.2.2.2.2.2.2.2.2.2.2.2.2.2.2.2.1), (hF.out.2.2.2.2.2.2.2.2.2.2.2.2.2.2.2.2.1), (hF.out.2.2.2.2.2.2.2.2.2.2.2.2.2.2.2.2.2.1), (hF.out.2.2.2.2.2.2.2.2.2.2.2.2.2.2.2.2.2.2.1), (hF.out.2.2.2.2.2.2.2.2.2.2.2.2.2.2.2.2.2.2.2.1), (hF.out.2.2.2.2.2.2.2.2.2.2.2.2.2.2.2.2.2.2.2.2.1), (hF.out.2.2.2.2.2.2.2.2.2.2.2.2.2.2.2.2.2.2.2.2.2)⟩
    refine StepsF.cons (o := _) rfl (ws := []) (by kernel_rfl) (by decide) (fun d s b w hF hd hw K hK => ?_) ?_
    · have hB : Below W0.heap.size W0 w := (hF.out.1)
      dsimp only
      go_simp
      exact hK.out (ups s 10 (.pointer (some ⟨A, 6, none⟩))) b _ ⟨hB, (hF.out.2.1), (hF.out.2.2.1), (hF.out.2.2.2.1), (hF.out.2.2.2.2.1), (fun _ => rfl), (hF.out.2.2.2.2.2.2.1), (hF.out.2.2.2.2.2.2.2.1), (hF.out.2.2.2.2.2.2.2.2.1), (hF.out.2.2.2.2.2.2.2.2.2.1), (hF.out.2.2.2.2.2.2.2.2.2.2.1), (hF.out.2.2.2.2.2.2.2.2.2.2.2.1), (hF.out.2.2.2.2.2.2.2.2.2.2.2.2.1), (hF.out.2.2.2.2.2.2.2.2.2.2.2.2.2.1), (hF.out.2.2.2.2.2.2.2.2.2.2.2.2.2.2.1), (hF.out.2.2.2.2.2.2.2.2.2.2.2.2.2.2.2.1), (hF.out.2.2.2.2.2.2.2.2.2.2.2.2.2.2.2.2.1), (hF.out.2.2.2.2.2.2.2.2.2.2.2.2.2.2.2.2.2.1), (hF.out.2.2.2.2.2.2.2.2.2.2.2.2.2.2.2.2.2.2.1), (hF.out.2.2.2.2.2.2.2.2.2.2.2.2.2.2.2.2.2.2.2.1), (hF.out.2.2.2.2.2.2.2.2.2.2.2.2.2.2.2.2.2.2.2.2.1), (hF.out.2.2.2.2.2.2.2.2.2.2.2.2.2.2.2.2.2.2.2.2.2)⟩
    refine StepsF.cons (o := _) rfl (ws := [4]) (by kernel_rfl) (by decide) (fun d s b w hF hd hw K hK => ?_) ?_
    · have hB : Below W0.heap.size W0 w := (hF.out.1)
      have e4 : s 10 = .pointer (some ⟨A, 6, none⟩) := (hF.out.2.2.2.2.2.1) (hw 4 (by decide))
      dsimp only
      have oa := HA.out.later hB
      have a0 := oa.at 0 _ rfl
      have a1 := oa.at 1 _ rfl
      have a2 := oa.at 2 _ rfl
      have a3 := oa.at 3 _ rfl
      have a4 := oa.at 4 _ rfl
      have a5 := oa.at 5 _ rfl
      have a6 := oa.at 6 _ rfl
      have a7 := oa.at 7 _ rfl
      have a8 := oa.at 8 _ rfl
      have a9 := oa.at 9 _ rfl
      have a10 := oa.at 10 _ rfl
      have a11 := oa.at 11 _ rfl
      clear oa
      go_simp
      exact hK.out (ups (ups s 10 (.pointer (some ⟨A, 6, none⟩))) 11 ((.agg #[.int .i64 u6, .int .i64 u7, .int .i64 u8]))) b _ ⟨hB, (hF.out.2.1), (hF.out.2.2.1), (hF.out.2.2.2.1), (hF.out.2.2.2.2.1), (fun _ => rfl), (fun _ => rfl), (hF.out.2.2.2.2.2.2.2.1), (hF.out.2.2.2.2.2.2.2.2.1), (hF.out.2.2.2.2.2.2.2.2.2.1), (hF.out.2.2.2.2.2.2.2.2.2.2.1), (hF.out.2.2.2.2.2.2.2.2.2.2.2.1), (hF.out.2.2.2.2.2.2.2.2.2.2.2.2.1), (hF.out.2.2.2.2.2.2.2.2.2.2.2.2.2.1), (hF.out.2.2.2.2.2.2.2.2.2.2.2.2.2.2.1), (hF.out.2.2.2.2.2.2.2.2.2.2.2.2.2.2.2.1), (hF.out.2.2.2.2.2.2.2.2.2.2.2.2.2.2.2.2.1), (hF.out.2.2.2.2.2.2.2.2.2.2.2.2.2.2.2.2.2.1), (hF.out.2.2.2.2.2.2.2.2.2.2.2.2.2.2.2.2.2.2.1), (hF.out.2.2.2.2.2.2.2.2.2.2.2.2.2.2.2.2.2.2.2.1), (hF.out.2.2.2.2.2.2.2.2.2.2.2.2.2.2.2.2.2.2.2.2.1), (hF.out.2.2.2.2.2.2.2.2.2.2.2.2.2.2.2.2.2.2.2.2.2)⟩
    refine StepsF.cons (o := _) rfl (ws := []) (by kernel_rfl) (by decide) (fun d s b w hF hd hw K hK => ?_) ?_
    · have hB : Below W0.heap.size W0 w := (hF.out.1)
      dsimp only
      go_simp
      exact hK.out (ups s 3 (.pointer (some ⟨w.heap.size, 0, none⟩))) (ups b 6 w.heap.size) _ ⟨(hB.alloc hB.size _), (hF.out.2.1), (hF.out.2.2.1), (hF.out.2.2.2.1), (hF.out.2.2.2.2.1), (hF.out.2.2.2.2.2.1), (hF.out.2.2.2.2.2.2.1), (fun _ => ⟨rfl, hB.size⟩), (fun _ _ => Own.newAt rfl), (hF.out.2.2.2.2.2.2.2.2.2.1), (fun h0 h1 => ((hF.out.2.2.2.2.2.2.2.2.2.2.1) h0 h1).alloc), (hF.out.2.2.2.2.2.2.2.2.2.2.2.1), (fun h0 h1 => ((hF.out.2.2.2.2.2.2.2.2.2.2.2.2.1) h0 h1).alloc), (fun h => absurd ((hF.out.2.2.2.2.2.2.2.2.2.2.2.2.2.2.1) h) (by simp [hd])), (fun _ => rfl), (fun h0 => ((hF.out.2.2.2.2.2.2.2.2.2.2.2.2.2.2.2.1) h0).alloc), (hF.out.2.2.2.2.2.2.2.2.2.2.2.2.2.2.2.2.1), (fun h0 => ((hF.out.2.2.2.2.2.2.2.2.2.2.2.2.2.2.2.2.2.1) h0).alloc), (hF.out.2.2.2.2.2.2.2.2.2.2.2.2.2.2.2.2.2.2.1), (fun _ h => Nat.ne_of_gt (by cases e : d 10 with | false => exact ((hF.out.2.2.2.2.2.2.2.2.2.2.1) h e).lt | true => exact ((hF.out.2.2.2.2.2.2.2.2.2.2.2.2.2.2.2.1) e).lt)), (fun _ h => Nat.ne_of_gt (by cases e : d 11 with | false => exact ((hF.out.2.2.2.2.2.2.2.2.2.2.2.2.1) h e).lt | true => exact ((hF.out.2.2.2.2.2.2.2.2.2.2.2.2.2.2.2.2.2.1) e).lt)), (hF.out.2.2.2.2.2.2.2.2.2.2.2.2.2.2.2.2.2.2.2.2.2)⟩
    refine StepsF.cons (o := _) rfl (ws := []) (by kernel_rfl) (by decide) (fun d s b w hF hd hw K hK => ?_) ?_
    · have hB : Below W0.heap.size W0 w := (hF.out.1)
      dsimp only
      go_simp
      exact hK.out (ups s 4 (.pointer (some ⟨w.heap.size, 0, none⟩))) (ups b 7 w.heap.size) _ ⟨(hB.alloc hB.size _), (hF.out.2.1), (hF.out.2.2.1), (hF.out.2.2.2.1), (hF.out.2.2.2.2.1), (hF.out.2.2.2.2.2.1), (hF.out.2.2.2.2.2.2.1), (hF.out.2.2.2.2.2.2.2.1), (fun h0 h1 => ((hF.out.2.2.2.2.2.2.2.2.1) h0 h1).alloc), (fun _ => ⟨rfl, hB.size⟩), (fun _ _ => Own.newAt rfl), (hF.out.2.2.2.2.2.2.2.2.2.2.2.1), (fun h0 h1 => ((hF.out.2.2.2.2.2.2.2.2.2.2.2.2.1) h0 h1).alloc), (fun h0 => ((hF.out.2.2.2.2.2.2.2.2.2.2.2.2.2.1) h0).alloc), (hF.out.2.2.2.2.2.2.2.2.2.2.2.2.2.2.1), (fun h => absurd ((hF.out.2.2.2.2.2.2.2.2.2.2.2.2.2.2.2.2.1) h) (by simp [hd])), (fun _ => rfl), (fun h0 => ((hF.out.2.2.2.2.2.2.2.2.2.2.2.2.2.2.2.2.2.1) h0).alloc), (hF.out.2.2.2.2.2.2.2.2.2.2.2.2.2.2.2.2.2.2.1), (fun h _ => Nat.ne_of_lt (by cases e : d 9 with | false => exact ((hF.out.2.2.2.2.2.2.2.2.1) h e).lt | true => exact ((hF.out.2.2.2.2.2.2.2.2.2.2.2.2.2.1) e).lt)), (hF.out.2.2.2.2.2.2.2.2.2.2.2.2.2.2.2.2.2.2.2.2.1), (fun _ h => Nat.ne_of_gt (by cases e : d 11 with | false => exact ((hF.out.2.2.2.2.2.2.2.2.2.2.2.2.1) h e).lt | true => exact ((hF.out.2.2.2.2.2.2.2.2.2.2.2.2.2.2.2.2.2.1) e).lt))⟩
    refine StepsF.cons (o := _) rfl (ws := []) (by kernel_rfl) (by decide) (fun d s b w hF hd hw K hK => ?_) ?_
    · have hB : Below W0.heap.size W0 w := (hF.out.1)
      dsimp only
      go_simp
      exact hK.out (ups s 5 (.pointer (some ⟨w.heap.size, 0, none⟩))) (ups b 8 w.heap.size) _ ⟨(hB.alloc hB.size _), (hF.out.2.1), (hF.out.2.2.1), (hF.out.2.2.2.1), (hF.out.2.2.2.2.1), (hF.out.2.2.2.2.2.1), (hF.out.2.2.2.2.2.2.1), (hF.out.2.2.2.2.2.2.2.1), (fun h0 h1 => ((hF.out.2.2.2.2.2.2.2.2.1) h0 h1).alloc), (hF.out.2.2.2.2.2.2.2.2.2.1), (fun h0 h1 => ((hF.out.2.2.2.2.2.2.2.2.2.2.1) h0 h1).alloc), (fun _ => ⟨rfl, hB.size⟩), (fun _ _ => Own.newAt rfl), (fun h0 => ((hF.out.2.2.2.2.2.2.2.2.2.2.2.2.2.1) h0).alloc), (hF.out.2.2.2.2.2.2.2.2.2.2.2.2.2.2.1), (fun h0 => ((hF.out.2.2.2.2.2.2.2.2.2.2.2.2.2.2.2.1) h0).alloc), (hF.out.2.2.2.2.2.2.2.2.2.2.2.2.2.2.2.2.1), (fun h => absurd ((hF.out.2.2.2.2.2.2.2.2.2.2.2.2.2.2.2.2.2.2.1) h) (by simp [hd])), (fun _ => rfl), (hF.out.2.2.2.2.2.2.2.2.2.2.2.2.2.2.2.2.2.2.2.1), (fun h _ => Nat.ne_of_lt (by cases e : d 9 with | false => exact ((hF.out.2.2.2.2.2.2.2.2.1) h e).lt | true => exact ((hF.out.2.2.2.2.2.2.2.2.2.2.2.2.2.1) e).lt)), (fun h _ => Nat.ne_of_lt (by cases e : d 10 with | false => exact ((hF.out.2.2.2.2.2.2.2.2.2.2.1) h e).lt | true => exact ((hF.out.2.2.2.2.2.2.2.2.2.2.2.2.2.2.2.1) e).lt))⟩
    refine StepsF.cons (o := _) rfl (ws := [6, 1, 0, 1, 6, 7, 8]) (by kernel_rfl) (by decide) (fun d s b w hF hd hw K hK => ?_) ?_
    · have hB : Below W0.heap.size W0 w := (hF.out.1)
      have e0 : s 6 = .pointer (some ⟨A, 0, none⟩) := (hF.out.2.1) (hw 0 (by decide))
      have e1 : s 7 = (.agg #[.int .i64 u0, .int .i64 u1, .int .i64 u2]) := (hF.out.2.2.1) (hw 1 (by decide))
      have e6 : s 3 = .pointer (some ⟨(b 6), 0, none⟩) := ((hF.out.2.2.2.2.2.2.2.1) (hw 6 (by decide))).1
      have le6 : W0.heap.size ≤ b 6 := ((hF.out.2.2.2.2.2.2.2.1) (hw 6 (by decide))).2
      have e7 : s 4 = .pointer (some ⟨(b 7), 0, none⟩) := ((hF.out.2.2.2.2.2.2.2.2.2.1) (hw 7 (by decide))).1
      have le7 : W0.heap.size ≤ b 7 := ((hF.out.2.2.2.2.2.2.2.2.2.1) (hw 7 (by decide))).2
      have e8 : s 5 = .pointer (some ⟨(b 8), 0, none⟩) := ((hF.out.2.2.2.2.2.2.2.2.2.2.2.1) (hw 8 (by decide))).1
      have le8 : W0.heap.size ≤ b 8 := ((hF.out.2.2.2.2.2.2.2.2.2.2.2.1) (hw 8 (by decide))).2
      dsimp only
      have o6 := (hF.out.2.2.2.2.2.2.2.2.1) (hw 6 (by decide)) hd
      have fr0 := o6.ok 0 (by decide)
      have fr1 := o6.ok 1 (by decide)
      have fr2 := o6.ok 2 (by decide)
      have ce0 := o6.at 0 _ rfl
      have ce1 := o6.at 1 _ rfl
      have ce2 := o6.at 2 _ rfl
      go_simp
      exact hK.out (ups (ups (ups (ups (ups s 6 (.pointer (some ⟨A, 0, none⟩))) 7 ((.agg #[.int .i64 u0, .int .i64 u1, .int .i64 u2]))) 3 (.pointer (some ⟨(b 6), 0, none⟩))) 4 (.pointer (some ⟨(b 7), 0, none⟩))) 5 (.pointer (some ⟨(b 8), 0, none⟩))) b _ ⟨(Below.setCells hB le6 [.int .i64 u0, .int .i64 u1, .int .i64 u2] 0), (fun _ => rfl), (fun _ => rfl), (hF.out.2.2.2.1), (hF.out.2.2.2.2.1), (hF.out.2.2.2.2.2.1), (hF.out.2.2.2.2.2.2.1), (fun _ => ⟨rfl, le6⟩), (fun _ h => nomatch h), (fun _ => ⟨rfl, le7⟩), (fun h h2 => Own.far (o := 0) (vs := [.int .i64 u0, .int .i64 u1, .int .i64 u2]) ((hF.out.2.2.2.2.2.2.2.2.2.2.1) h h2) (((hF.out.2.2.2.2.2.2.2.2.2.2.2.2.2.2.2.2.2.2.2.1) (hw 6 (by decide)) h).symm)), (fun _ => ⟨rfl, le8⟩), (fun h h2 => Own.far (o := 0) (vs := [.int .i64 u0, .int .i64 u1, .int .i64 u2]) ((hF.out.2.2.2.2.2.2.2.2.2.2.2.2.1) h h2) (((hF.out.2.2.2.2.2.2.2.2.2.2.2.2.2.2.2.2.2.2.2.2.1) (hw 6 (by decide)) h).symm)), (fun _ => Own.store (vs := [.int .i64 u0, .int .i64 u1, .int .i64 u2]) o6 rfl), (fun _ => hw 6 (by decide)), (fun h => Own.far (o := 0) (vs := [.int .i64 u0, .int .i64 u1, .int .i64 u2]) ((hF.out.2.2.2.2.2.2.2.2.2.2.2.2.2.2.2.1) h) (((hF.out.2.2.2.2.2.2.2.2.2.2.2.2.2.2.2.2.2.2.2.1) (hw 6 (by decide)) ((hF.out.2.2.2.2.2.2.2.2.2.2.2.2.2.2.2.2.1) h)).symm)), (hF.out.2.2.2.2.2.2.2.2.2.2.2.2.2.2.2.2.1), (fun h => Own.far (o := 0) (vs := [.int .i64 u0, .int .i64 u1, .int .i64 u2]) ((hF.out.2.2.2.2.2.2.2.2.2.2.2.2.2.2.2.2.2.1) h) (((hF.out.2.2.2.2.2.2.2.2.2.2.2.2.2.2.2.2.2.2.2.2.1) (hw 6 (by decide)) ((hF.out.2.2.2.2.2.2.2.2.2.2.2.2.2.2.2.2.2.2.1) h)).symm)), (hF.out.2.2.2.2.2.2.2.2.2.2.2.2.2.2.2.2.2.2.1), (hF.out.2.2.2.2.2.2.2.2.2.2.2.2.2.2.2.2.2.2.2.1), (hF.out.2.2.2.2.2.2.2.2.2.2.2.2.2.2.2.2.2.2.2.2.1), (hF.out.2.2.2.2.2.2.2.2.2.2.2.2.2.2.2.2.2.2.2.2.2)⟩
    refine StepsF.cons (o := _) rfl (ws := [7, 3, 9, 0, 1, 2, 3, 6, 7, 8, 9]) (by kernel_rfl) (by decide) (fun d s b w hF hd hw K hK => ?_) ?_
    · have hB : Below W0.heap.size W0 w := (hF.out.1)
      have e0 : s 6 = .pointer (some ⟨A, 0, none⟩) := (hF.out.2.1) (hw 0 (by decide))
      have e1 : s 7 = (.agg #[.int .i64 u0, .int .i64 u1, .int .i64 u2]) := (hF.out.2.2.1) (hw 1 (by decide))
      have e2 : s 8 = .pointer (some ⟨A, 3, none⟩) := (hF.out.2.2.2.1) (hw 2 (by decide))
      have e3 : s 9 = (.agg #[.int .i64 u3, .int .i64 u4, .int .i64 u5]) := (hF.out.2.2.2.2.1) (hw 3 (by decide))
      have e6 : s 3 = .pointer (some ⟨(b 6), 0, none⟩) := ((hF.out.2.2.2.2.2.2.2.1) (hw 6 (by decide))).1
      have le6 : W0.heap.size ≤ b 6 := ((hF.out.2.2.2.2.2.2.2.1) (hw 6 (by decide))).2
      have e7 : s 4 = .pointer (some ⟨(b 7), 0, none⟩) := ((hF.out.2.2.2.2.2.2.2.2.2.1) (hw 7 (by decide))).1
      have le7 : W0.heap.size ≤ b 7 := ((hF.out.2.2.2.2.2.2.2.2.2.1) (hw 7 (by decide))).2
      have e8 : s 5 = .pointer (some ⟨(b 8), 0, none⟩) := ((hF.out.2.2.2.2.2.2.2.2.2.2.2.1) (hw 8 (by decide))).1
      have le8 : W0.heap.size ≤ b 8 := ((hF.out.2.2.2.2.2.2.2.2.2.2.2.1) (hw 8 (by decide))).2
      dsimp only
      have o7 := (hF.out.2.2.2.2.2.2.2.2.2.2.1) (hw 7 (by decide)) hd
      have fr0 := o7.ok 0 (by decide)
      have fr1 := o7.ok 1 (by decide)
      have fr2 := o7.ok 2 (by decide)
      have ce0 := o7.at 0 _ rfl
      have ce1 := o7.at 1 _ rfl
      have ce2 := o7.at 2 _ rfl
      go_simp
      exact hK.out (ups (ups (ups (ups (ups (ups (ups s 6 (.pointer (some ⟨A, 0, none⟩))) 7 ((.agg #[.int .i64 u0, .int .i64 u1, .int .i64 u2]))) 8 (.pointer (some ⟨A, 3, none⟩))) 9 ((.agg #[.int .i64 u3, .int .i64 u4, .int .i64 u5]))) 3 (.pointer (some ⟨(b 6), 0, none⟩))) 4 (.pointer (some ⟨(b 7), 0, none⟩))) 5 (.pointer (some ⟨(b 8), 0, none⟩))) b _ ⟨(Below.setCells hB le7 [.int .i64 u3, .int .i64 u4, .int .i64 u5] 0), (fun _ => rfl), (fun _ => rfl), (fun _ => rfl), (fun _ => rfl), (hF.out.2.2.2.2.2.1), (hF.out.2.2.2.2.2.2.1), (fun _ => ⟨rfl, le6⟩), (fun h h2 => Own.far (o := 0) (vs := [.int .i64 u3, .int .i64 u4, .int .i64 u5]) ((hF.out.2.2.2.2.2.2.2.2.1) h h2) (((hF.out.2.2.2.2.2.2.2.2.2.2.2.2.2.2.2.2.2.2.2.1) h (hw 7 (by decide))))), (fun _ => ⟨rfl, le7⟩), (fun _ h => nomatch h), (fun _ => ⟨rfl, le8⟩), (fun h h2 => Own.far (o := 0) (vs := [.int .i64 u3, .int .i64 u4, .int .i64 u5]) ((hF.out.2.2.2.2.2.2.2.2.2.2.2.2.1) h h2) (((hF.out.2.2.2.2.2.2.2.2.2.2.2.2.2.2.2.2.2.2.2.2.2) (hw 7 (by decide)) h).symm)), (fun h => Own.far (o := 0) (vs := [.int .i64 u3, .int .i64 u4, .int .i64 u5]) ((hF.out.2.2.2.2.2.2.2.2.2.2.2.2.2.1) h) (((hF.out.2.2.2.2.2.2.2.2.2.2.2.2.2.2.2.2.2.2.2.1) ((hF.out.2.2.2.2.2.2.2.2.2.2.2.2.2.2.1) h) (hw 7 (by decide))))), (hF.out.2.2.2.2.2.2.2.2.2.2.2.2.2.2.1), (fun _ => Own.store (vs := [.int .i64 u3, .int .i64 u4, .int .i64 u5]) o7 rfl), (fun _ => hw 7 (by decide)), (fun h => Own.far (o := 0) (vs := [.int .i64 u3, .int .i64 u4, .int .i64 u5]) ((hF.out.2.2.2.2.2.2.2.2.2.2.2.2.2.2.2.2.2.1) h) (((hF.out.2.2.2.2.2.2.2.2.2.2.2.2.2.2.2.2.2.2.2.2.2) (hw 7 (by decide)) ((hF.out.2.2.2.2.2.2.2.2.2.2.2.2.2.2.2.2.2.2.1) h)).symm)), (hF.out.2.2.2.2.2.2.2.2.2.2.2.2.2.2.2.2.2.2.1), (hF.out.2.2.2.2.2.2.2.2.2.2.2.2.2.2.2.2.2.2.2.1), (hF.out.2.2.2.2.2.2.2.2.2.2.2.2.2.2.2.2.2.2.2.2.1), (hF.out.2.2.2.2.2.2.2.2.2.2.2.2.2.2.2.2.2.2.2.2.2)⟩
    refine StepsF.cons (o := _) rfl (ws := [8, 5, 10, 0, 1, 2, 3, 4, 5, 6, 7, 8, 9, 10]) (by kernel_rfl) (by decide) (fun d s b w hF hd hw K hK => ?_) ?_
    · have hB : Below W0.heap.size W0 w := (hF.out.1)
      have e0 : s 6 = .pointer (some ⟨A, 0, none⟩) := (hF.out.2.1) (hw 0 (by decide))
      have e1 : s 7 = (.agg #[.int .i64 u0, .int .i64 u1, .int .i64 u2]) := (hF.out.2.2.1) (hw 1 (by decide))
      have e2 : s 8 = .pointer (some ⟨A, 3, none⟩) := (hF.out.2.2.2.1) (hw 2 (by decide))
      have e3 : s 9 = (.agg #[.int .i64 u3, .int .i64 u4, .int .i64 u5]) := (hF.out.2.2.2.2.1) (hw 3 (by decide))
      have e4 : s 10 = .pointer (some ⟨A, 6, none⟩) := (hF.out.2.2.2.2.2.1) (hw 4 (by decide))
      have e5 : s 11 = (.agg #[.int .i64 u6, .int .i64 u7, .int .i64 u8]) := (hF.out.2.2.2.2.2.2.1) (hw 5 (by decide))
      have e6 : s 3 = .pointer (some ⟨(b 6), 0, none⟩) := ((hF.out.2.2.2.2.2.2.2.1) (hw 6 (by decide))).1
      have le6 : W0.heap.size ≤ b 6 := ((hF.out.2.2.2.2.2.2.2.1) (hw 6 (by decide))).2
      have e7 : s 4 = .pointer (some ⟨(b 7), 0, none⟩) := ((hF.out.2.2.2.2.2.2.2.2.2.1) (hw 7 (by decide))).1
      have le7 : W0.heap.size ≤ b 7 := ((hF.out.2.2.2.2.2.2.2.2.2.1) (hw 7 (by decide))).2
      have e8 : s 5 = .pointer (some ⟨(b 8), 0, none⟩) := ((hF.out.2.2.2.2.2.2.2.2.2.2.2.1) (hw 8 (by decide))).1
      have le8 : W0.heap.size ≤ b 8 := ((hF.out.2.2.2.2.2.2.2.2.2.2.2.1) (hw 8 (by decide))).2
      dsimp only
      have o8 := (hF.out.2.2.2.2.2.2.2.2.2.2.2.2.1) (hw 8 (by decide)) hd
      have fr0 := o8.ok 0 (by decide)
      have fr1 := o8.ok 1 (by decide)
      have fr2 := o8.ok 2 (by decide)
      have ce0 := o8.at 0 _ rfl
      have ce1 := o8.at 1 _ rfl
      have ce2 := o8.at 2 _ rfl
      go_simp
      exact hK.out (ups (ups (ups (ups (ups (ups (ups (ups (ups s 6 (.pointer (some ⟨A, 0, none⟩))) 7 ((.agg #[.int .i64 u0, .int .i64 u1, .int .i64 u2]))) 8 (.pointer (some ⟨A, 3, none⟩))) 9 ((.agg #[.int .i64 u3, .int .i64 u4, .int .i64 u5]))) 10 (.pointer (some ⟨A, 6, none⟩))) 11 ((.agg #[.int .i64 u6, .int .i64 u7, .int .i64 u8]))) 3 (.pointer (some ⟨(b 6), 0, none⟩))) 4 (.pointer (some ⟨(b 7), 0, none⟩))) 5 (.pointer (some ⟨(b 8), 0, none⟩))) b _ ⟨(Below.setCells hB le8 [.int .i64 u6, .int .i64 u7, .int .i64 u8] 0), (fun _ => rfl), (fun _ => rfl), (fun _ => rfl), (fun _ => rfl), (fun _ => rfl), (fun _ => rfl), (fun _ => ⟨rfl, le6⟩), (fun h h2 => Own.far (o := 0) (vs := [.int .i64 u6, .int .i64 u7, .int .i64 u8]) ((hF.out.2.2.2.2.2.2.2.2.1) h h2) (((hF.out.2.2.2.2.2.2.2.2.2.2.2.2.2.2.2.2.2.2.2.2.1) h (hw 8 (by decide))))), (fun _ => ⟨rfl, le7⟩), (fun h h2 => Own.far (o := 0) (vs := [.int .i64 u6, .int .i64 u7, .int .i64 u8]) ((hF.out.2.2.2.2.2.2.2.2.2.2.1) h h2) (((hF.out.2.2.2.2.2.2.2.2.2.2.2.2.2.2.2.2.2.2.2.2.2) h (hw 8 (by decide))))), (fun _ => ⟨rfl, le8⟩), (fun _ h => nomatch h), (fun h => Own.far (o := 0) (vs := [.int .i64 u6, .int .i64 u7, .int .i64 u8]) ((hF.out.2.2.2.2.2.2.2.2.2.2.2.2.2.1) h) (((hF.out.2.2.2.2.2.2.2.2.2.2.2.2.2.2.2.2.2.2.2.2.1) ((hF.out.2.2.2.2.2.2.2.2.2.2.2.2.2.2.1) h) (hw 8 (by decide))))), (hF.out.2.2.2.2.2.2.2.2.2.2.2.2.2.2.1), (fun h => Own.far (o := 0) (vs := [.int .i64 u6, .int .i64 u7, .int .i64 u8]) ((hF.out.2.2.2.2.2.2.2.2.2.2.2.2.2.2.2.1) h) (((hF.out.2.2.2.2.2.2.2.2.2.2.2.2.2.2.2.2.2.2.2.2.2) ((hF.out.2.2.2.2.2.2.2.2.2.2.2.2.2.2.2.2.1) h) (hw 8 (by decide))))), (hF.out.2.2.2.2.2.2.2.2.2.2.2.2.2.2.2.2.1), (fun _ => Own.store (vs := [.int .i64 u6, .int .i64 u7, .int .i64 u8]) o8 rfl), (fun _ => hw 8 (by decide)), (hF.out.2.2.2.2.2.2.2.2.2.2.2.2.2.2.2.2.2.2.2.1), (hF.out.2.2.2.2.2.2.2.2.2.2.2.2.2.2.2.2.2.2.2.2.1), (hF.out.2.2.2.2.2.2.2.2.2.2.2.2.2.2.2.2.2.2.2.2.2)⟩
    exact StepsF.nil
  intro d s b w1 hF hall
  replace hF := Lib.hid hF
  have hB : Below W0.heap.size W0 w1 := (hF.out.1)
  dsimp only
  have e0 : s 6 = .pointer (some ⟨A, 0, none⟩) := (hF.out.2.1) (hall 0 (by decide))
  have e1 : s 7 = (.agg #[.int .i64 u0, .int .i64 u1, .int .i64 u2]) := (hF.out.2.2.1) (hall 1 (by decide))
  have e2 : s 8 = .pointer (some ⟨A, 3, none⟩) := (hF.out.2.2.2.1) (hall 2 (by decide))
  have e3 : s 9 = (.agg #[.int .i64 u3, .int .i64 u4, .int .i64 u5]) := (hF.out.2.2.2.2.1) (hall 3 (by decide))
  have e4 : s 10 = .pointer (some ⟨A, 6, none⟩) := (hF.out.2.2.2.2.2.1) (hall 4 (by decide))
  have e5 : s 11 = (.agg #[.int .i64 u6, .int .i64 u7, .int .i64 u8]) := (hF.out.2.2.2.2.2.2.1) (hall 5 (by decide))
  have e6 : s 3 = .pointer (some ⟨(b 6), 0, none⟩) := ((hF.out.2.2.2.2.2.2.2.1) (hall 6 (by decide))).1
  have le6 : W0.heap.size ≤ b 6 := ((hF.out.2.2.2.2.2.2.2.1) (hall 6 (by decide))).2
  have e7 : s 4 = .pointer (some ⟨(b 7), 0, none⟩) := ((hF.out.2.2.2.2.2.2.2.2.2.1) (hall 7 (by decide))).1
  have le7 : W0.heap.size ≤ b 7 := ((hF.out.2.2.2.2.2.2.2.2.2.1) (hall 7 (by decide))).2
  have e8 : s 5 = .pointer (some ⟨(b 8), 0, none⟩) := ((hF.out.2.2.2.2.2.2.2.2.2.2.2.1) (hall 8 (by decide))).1
  have le8 : W0.heap.size ≤ b 8 := ((hF.out.2.2.2.2.2.2.2.2.2.2.2.1) (hall 8 (by decide))).2
  have f9 := (hF.out.2.2.2.2.2.2.2.2.2.2.2.2.2.1) (hall 9 (by decide))
  have f10 := (hF.out.2.2.2.2.2.2.2.2.2.2.2.2.2.2.2.1) (hall 10 (by decide))
  have f11 := (hF.out.2.2.2.2.2.2.2.2.2.2.2.2.2.2.2.2.2.1) (hall 11 (by decide))
  have n6_7 := (hF.out.2.2.2.2.2.2.2.2.2.2.2.2.2.2.2.2.2.2.2.1) (hall 6 (by decide)) (hall 7 (by decide))
  have n6_8 := (hF.out.2.2.2.2.2.2.2.2.2.2.2.2.2.2.2.2.2.2.2.2.1) (hall 6 (by decide)) (hall 8 (by decide))
  have n7_8 := (hF.out.2.2.2.2.2.2.2.2.2.2.2.2.2.2.2.2.2.2.2.2.2) (hall 7 (by decide)) (hall 8 (by decide))
  rw [e0, e1, e2, e3, e4, e5, e6, e7, e8]
  clear hall hF e0 e1 e2 e3 e4 e5 e6 e7 e8
  obtain ⟨bx, hz⟩ : ∃ x, x = b 6 := ⟨_, rfl⟩
  rw [← hz] at le6 f9 n6_7 n6_8 ⊢
  clear hz
  obtain ⟨by1, hz⟩ : ∃ x, x = b 7 := ⟨_, rfl⟩
  rw [← hz] at le7 f10 n6_7 n7_8 ⊢
  clear hz
  obtain ⟨bz, hz⟩ : ∃ x, x = b 8 := ⟨_, rfl⟩
  rw [← hz] at le8 f11 n6_8 n7_8 ⊢
  clear hz
  clear d s b
  have hB1 : Below w.heap.size w w1 := Below.go hB0 hB
  have oA := HA.out.later hB; have oR := HR.out.later hB
  have a9 := oA.at 9 _ rfl; have a10 := oA.at 10 _ rfl; have a11 := oA.at 11 _ rfl
  have r0 := oR.at 0 _ rfl; have k0 := oR.ok 0 (by decide); have r1 := oR.at 1 _ rfl; have k1 := oR.ok 1 (by decide); have r2 := oR.at 2 _ rfl; have k2 := oR.ok 2 (by decide); have r3 := oR.at 3 _ rfl; have k3 := oR.ok 3 (by decide); have r4 := oR.at 4 _ rfl; have k4 := oR.ok 4 (by decide); have r5 := oR.at 5 _ rfl; have k5 := oR.ok 5 (by decide); have r6 := oR.at 6 _ rfl; have k6 := oR.ok 6 (by decide); have r7 := oR.at 7 _ rfl; have k7 := oR.ok 7 (by decide); have r8 := oR.at 8 _ rfl; have k8 := oR.ok 8 (by decide); have r9 := oR.at 9 _ rfl; have k9 := oR.ok 9 (by decide); have r10 := oR.at 10 _ rfl; have k10 := oR.ok 10 (by decide); have r11 := oR.at 11 _ rfl; have k11 := oR.ok 11 (by decide)
  have x0 := f9.at 0 _ rfl; have x1 := f9.at 1 _ rfl; have x2 := f9.at 2 _ rfl
  have y0 := f10.at 0 _ rfl; have y1 := f10.at 1 _ rfl; have y2 := f10.at 2 _ rfl
  have z0 := f11.at 0 _ rfl; have z1 := f11.at 1 _ rfl; have z2 := f11.at 2 _ rfl
  have hRl := oR.lt
  clear hB hB0 HA HR oA oR f9 f10 f11
  go_wp2_with (fail)
  exact bodyPost_ret (v := (.agg #[.int .i64 u0, .int .i64 u3, .int .i64 u6, .int .i64 u1, .int .i64 u4, .int .i64 u7, .int .i64 u2, .int .i64 u5, .int .i64 u8, .int .i64 u9, .int .i64 u10, .int .i64 u11])) (by simp [results, Try.results89, go_sem, r0, r1, r2, r3, r4, r5, r6, r7, r8, r9, r10, r11]) rfl ⟨rfl, by repeat (first | (with_reducible assumption) | (with_reducible refine Below.setCell ?_ (by first | assumption | (simp; omega)) _))⟩

theorem infoVecSize : (Try.prog.info? 36).map (·.size) = some 3 := by kernel_rfl
set_option maxHeartbeats 4000000 in
theorem Axes_core (u0 u1 u2 u3 u4 u5 u6 u7 u8 u9 u10 u11 : Int) (src : Option Addr) (n cap : Nat) (k : Int) (cs : List Value) (hl : cs.length ≤ 12) (hov : over [.int .i64 4294967296, .int .i64 0, .int .i64 0, .int .i64 0, .int .i64 4294967296, .int .i64 0, .int .i64 0, .int .i64 0, .int .i64 4294967296, .int .i64 0, .int .i64 0, .int .i64 0] 0 cs = [.int .i64 u0, .int .i64 u1, .int .i64 u2, .int .i64 u3, .int .i64 u4, .int .i64 u5, .int .i64 u6, .int .i64 u7, .int .i64 u8, .int .i64 u9, .int .i64 u10, .int .i64 u11]) (w : World)
    (H : Hid (∀ W b ty, Below w.heap.size w W → Own b [.int .i64 4294967296, .int .i64 0, .int .i64 0, .int .i64 0, .int .i64 4294967296, .int .i64 0, .int .i64 0, .int .i64 0, .int .i64 4294967296, .int .i64 0, .int .i64 0, .int .i64 0] W → (Builtin.copy_ #[77, 77] ty #[.slice (some ⟨b, 0, none⟩) 4 4, .slice src n cap]).run Try.prog W = .ok (.int .i64 k) (W.setCells b 0 cs))) :
    Calls Try.prog 53 #[.slice src n cap] w fun e w' => e = .returned (.agg #[.int .i64 u0, .int .i64 u3, .int .i64 u6, .int .i64 u1, .int .i64 u4, .int .i64 u7, .int .i64 u2, .int .i64 u5, .int .i64 u8, .int .i64 u9, .int .i64 u10, .int .i64 u11]) ∧ Below w.heap.size w w' := by
  have fc := Lib.hid (fromColumns_any u0 u1 u2 u3 u4 u5 u6 u7 u8 u9 u10 u11)
  have HL := Lib.hid hl; have HO := Lib.hid hov
  clear hl hov
  go_enter Try.func53, Try.ntmps53
  go_upto_region 2 with fail
  obtain ⟨W0, hW⟩ : ∃ W0, W0 = ((w.alloc (.cells #[.int .i64 0, .int .i64 0, .int .i64 0, .int .i64 0, .int .i64 0, .int .i64 0, .int .i64 0, .int .i64 0, .int .i64 0, .int .i64 0, .int .i64 0, .int .i64 0] 80)).alloc (.cells #[.int .i64 4294967296, .int .i64 0, .int .i64 0, .int .i64 0, .int .i64 4294967296, .int .i64 0, .int .i64 0, .int .i64 0, .int .i64 4294967296, .int .i64 0, .int .i64 0, .int .i64 0] 127)) := ⟨_, rfl⟩
  have hB0 : Below w.heap.size w W0 := hW ▸ (Below.al (Below.al (Below.refl _ _)))
  have HR : Hid (Own w.heap.size [.int .i64 0, .int .i64 0, .int .i64 0, .int .i64 0, .int .i64 0, .int .i64 0, .int .i64 0, .int .i64 0, .int .i64 0, .int .i64 0, .int .i64 0, .int .i64 0] W0) := Lib.hid (hW ▸ (Own.newAt (by simp)).alloc)
  have HD : Hid (Own (w.heap.size + 1) [.int .i64 4294967296, .int .i64 0, .int .i64 0, .int .i64 0, .int .i64 4294967296, .int .i64 0, .int .i64 0, .int .i64 0, .int .i64 4294967296, .int .i64 0, .int .i64 0, .int .i64 0] W0) := Lib.hid (hW ▸ (Own.newAt (by simp)))
  rw [← hW]
  clear hW
  obtain ⟨D, eD⟩ : ∃ X, X = (w.heap.size + 1) := ⟨_, rfl⟩
  rw [← eD] at HD ⊢
  have Dw : w.heap.size ≤ D := by omega
  obtain ⟨R, eR⟩ : ∃ X, X = w.heap.size := ⟨_, rfl⟩
  rw [← eR] at HR ⊢
  have Rw : w.heap.size ≤ R := by omega
  have nRD : R ≠ D := by omega
  have nDR : D ≠ R := by omega
  clear eR eD
  have hcp := fun ty => H.out W0 D ty hB0 HD.out
  have hR := HR.out.lt; have hD := HD.out.lt
  go_upto_region 3 with fail
  have HD1 : Hid (Own D [.int .i64 u0, .int .i64 u1, .int .i64 u2, .int .i64 u3, .int .i64 u4, .int .i64 u5, .int .i64 u6, .int .i64 u7, .int .i64 u8, .int .i64 u9, .int .i64 u10, .int .i64 u11] (W0.setCells D 0 cs)) := Lib.hid (HO.out ▸ HD.out.part (o := 0) (by simpa using HL.out))
  have HR1 : Hid (Own R [.int .i64 0, .int .i64 0, .int .i64 0, .int .i64 0, .int .i64 0, .int .i64 0, .int .i64 0, .int .i64 0, .int .i64 0, .int .i64 0, .int .i64 0, .int .i64 0] (W0.setCells D 0 cs)) := Lib.hid (HR.out.far nRD)
  have hB1 : Below w.heap.size w (W0.setCells D 0 cs) := Below.setCells hB0 Dw cs 0
  clear hcp H HR HD HL HO hR hD
  generalize W0.setCells D 0 cs = W1 at *
  have oD := HD1.out
  have hD1 := oD.lt
  have d0 := oD.at 0 _ rfl; have d1 := oD.at 1 _ rfl; have d2 := oD.at 2 _ rfl; have d3 := oD.at 3 _ rfl; have d4 := oD.at 4 _ rfl; have d5 := oD.at 5 _ rfl; have d6 := oD.at 6 _ rfl; have d7 := oD.at 7 _ rfl; have d8 := oD.at 8 _ rfl; have d9 := oD.at 9 _ rfl; have d10 := oD.at 10 _ rfl; have d11 := oD.at 11 _ rfl
  clear oD
  go_wp2_with (go_at_call 89; refine (fc.out _).mono ?_; rintro e w2 ⟨rfl, hb⟩; have oR := HR1.out.later hb; have r0 := oR.at 0 _ rfl; have k0 := oR.ok 0 (by decide); have r1 := oR.at 1 _ rfl; have k1 := oR.ok 1 (by decide); have r2 := oR.at 2 _ rfl; have k2 := oR.ok 2 (by decide); have r3 := oR.at 3 _ rfl; have k3 := oR.ok 3 (by decide); have r4 := oR.at 4 _ rfl; have k4 := oR.ok 4 (by decide); have r5 := oR.at 5 _ rfl; have k5 := oR.ok 5 (by decide); have r6 := oR.at 6 _ rfl; have k6 := oR.ok 6 (by decide); have r7 := oR.at 7 _ rfl; have k7 := oR.ok 7 (by decide); have r8 := oR.at 8 _ rfl; have k8 := oR.ok 8 (by decide); have r9 := oR.at 9 _ rfl; have k9 := oR.ok 9 (by decide); have r10 := oR.at 10 _ rfl; have k10 := oR.ok 10 (by decide); have r11 := oR.at 11 _ rfl; have k11 := oR.ok 11 (by decide); have hRl := oR.lt; have hB2 : Below w.heap.size w w2 := Below.go hB1 hb; clear oR hb)
  exact bodyPost_ret (v := (.agg #[.int .i64 u0, .int .i64 u3, .int .i64 u6, .int .i64 u1, .int .i64 u4, .int .i64 u7, .int .i64 u2, .int .i64 u5, .int .i64 u8, .int .i64 u9, .int .i64 u10, .int .i64 u11])) (by simp [results, Try.results53, go_sem, r0, r1, r2, r3, r4, r5, r6, r7, r8, r9, r10, r11]) rfl ⟨rfl, by repeat (first | (with_reducible assumption) | (with_reducible refine Below.setCell ?_ (by first | assumption | (simp; omega)) _))⟩

theorem Axes_nil (p : Option Addr) (cap : Nat) (w : World) : Calls Try.prog 53 #[.slice p 0 cap] w fun e w' => e = .returned (.agg #[.int .i64 4294967296, .int .i64 0, .int .i64 0, .int .i64 0, .int .i64 4294967296, .int .i64 0, .int .i64 0, .int .i64 0, .int .i64 4294967296, .int .i64 0, .int .i64 0, .int .i64 0]) ∧ Below w.heap.size w w' :=
  Axes_core 4294967296 0 0 0 4294967296 0 0 0 4294967296 0 0 0 p 0 cap 0 [] (by simp) rfl w (fun W b ty _ _ => run_copy_zero (S := 3) W _ _ ty _ _ _ _ _ _ _ Try.underlying77 infoVecSize (by simp))

theorem Same_any (w : World) : Calls Try.prog 47 #[] w fun e w' => e = .returned (.agg #[.int .i64 4294967296, .int .i64 0, .int .i64 0, .int .i64 0, .int .i64 4294967296, .int .i64 0, .int .i64 0, .int .i64 0, .int .i64 4294967296, .int .i64 0, .int .i64 0, .int .i64 0]) ∧ Below w.heap.size w w' := by
  have ax := Lib.hid (Axes_nil none 0)
  go_enter Try.func47, Try.ntmps47
  go_wp2_with (go_at_call 53; refine (ax.out _).mono ?_; rintro e w2 ⟨rfl, hb⟩; have oR := (Own.newAt (b := w.heap.size) (W := w) (cs := #[.int .i64 0, .int .i64 0, .int .i64 0, .int .i64 0, .int .i64 0, .int .i64 0, .int .i64 0, .int .i64 0, .int .i64 0, .int .i64 0, .int .i64 0, .int .i64 0]) (T := 80) rfl).later hb; have r0 := oR.at 0 _ rfl; have k0 := oR.ok 0 (by decide); have r1 := oR.at 1 _ rfl; have k1 := oR.ok 1 (by decide); have r2 := oR.at 2 _ rfl; have k2 := oR.ok 2 (by decide); have r3 := oR.at 3 _ rfl; have k3 := oR.ok 3 (by decide); have r4 := oR.at 4 _ rfl; have k4 := oR.ok 4 (by decide); have r5 := oR.at 5 _ rfl; have k5 := oR.ok 5 (by decide); have r6 := oR.at 6 _ rfl; have k6 := oR.ok 6 (by decide); have r7 := oR.at 7 _ rfl; have k7 := oR.ok 7 (by decide); have r8 := oR.at 8 _ rfl; have k8 := oR.ok 8 (by decide); have r9 := oR.at 9 _ rfl; have k9 := oR.ok 9 (by decide); have r10 := oR.at 10 _ rfl; have k10 := oR.ok 10 (by decide); have r11 := oR.at 11 _ rfl; have k11 := oR.ok 11 (by decide); have hB2 : Below w.heap.size w w2 := Below.go (Below.al (Below.refl _ _)) hb; clear oR hb)
  exact bodyPost_ret (v := (.agg #[.int .i64 4294967296, .int .i64 0, .int .i64 0, .int .i64 0, .int .i64 4294967296, .int .i64 0, .int .i64 0, .int .i64 0, .int .i64 4294967296, .int .i64 0, .int .i64 0, .int .i64 0])) (by simp [results, Try.results47, go_sem, r0, r1, r2, r3, r4, r5, r6, r7, r8, r9, r10, r11]) rfl ⟨rfl, by repeat (first | (with_reducible assumption) | (with_reducible refine Below.setCell ?_ (by simp) _))⟩
end Go.Proofs.Ytgggngcgcpmkbaa
