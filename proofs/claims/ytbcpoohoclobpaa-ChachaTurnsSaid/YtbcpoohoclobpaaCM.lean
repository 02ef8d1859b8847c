/- ChachaQuarters, ChachaTurns: the walks. -/
import Derived.Test.YtbcpoohoclobpaaCL
namespace Go.Proofs.Ytbcpoohoclobpaa
set_option linter.unusedVariables false
set_option maxRecDepth 2000
set_option linter.unusedSimpArgs false
open Go.RowKit

set_option maxHeartbeats 4000000 in
theorem Quarters_core (x0 x1 x2 x3 : Int) (ha : in32 x0) (hb : in32 x1) (hc : in32 x2) (hd : in32 x3) (w : World) : Calls Try.prog 3 #[(.agg #[.int .u32 x0, .int .u32 x1, .int .u32 x2, .int .u32 x3])] w fun e w' => e = .returned (.bool true) ∧ Below w.heap.size w w' := by
  have HQ := Lib.hid (Quarter_any x0 x1 x2 x3 ha hb hc hd)
  have HR := Lib.hid (RQuarter_any x0 x1 x2 x3 ha hb hc hd)
  clear ha hb hc hd
  obtain ⟨p0, ep0⟩ : ∃ z, (quarterF ⟨x0, x1, x2, x3⟩).a = z := ⟨_, rfl⟩
  obtain ⟨p1, ep1⟩ : ∃ z, (quarterF ⟨x0, x1, x2, x3⟩).b = z := ⟨_, rfl⟩
  obtain ⟨p2, ep2⟩ : ∃ z, (quarterF ⟨x0, x1, x2, x3⟩).c = z := ⟨_, rfl⟩
  obtain ⟨p3, ep3⟩ : ∃ z, (quarterF ⟨x0, x1, x2, x3⟩).d = z := ⟨_, rfl⟩
  rw [ep0, ep1, ep2, ep3] at HQ HR
  clear ep0 ep1 ep2 ep3
  go_enter Try.func3, Try.ntmps3
  go_upto_region 1 with fail
  obtain ⟨W0, hW⟩ : ∃ W0, W0 = (w.alloc (.cells #[.int .u32 x0, .int .u32 x1, .int .u32 x2, .int .u32 x3] 23)) := ⟨_, rfl⟩
  have hB0 : Below w.heap.size w W0 := hW ▸ (Below.al (Below.refl _ _))
  have HS : Hid (Own w.heap.size [.int .u32 x0, .int .u32 x1, .int .u32 x2, .int .u32 x3] W0) := Lib.hid (hW ▸ (Own.newAt (by simp)))
  rw [← hW]
  clear hW
  obtain ⟨S, eS⟩ : ∃ X, X = w.heap.size := ⟨_, rfl⟩
  rw [← eS] at HS ⊢
  have Sw : w.heap.size ≤ S := by omega
  clear eS
  refine wp_region_fun 9 (by kernel_rfl) (by kernel_rfl) rfl (fun s b => ⟨#[(.agg #[.int .u32 x0, .int .u32 x1, .int .u32 x2, .int .u32 x3]), .pointer (some ⟨S, 0, none⟩), s 2, s 3, s 4, s 5, s 6, s 7, s 8, s 9, s 10], []⟩) (fun d s b w => (Below W0.heap.size W0 w) ∧ (d 0 = true → s 3 = (.agg #[.int .u32 x0, .int .u32 x1, .int .u32 x2, .int .u32 x3])) ∧ (d 1 = true → s 4 = (.agg #[.int .u32 p0, .int .u32 p1, .int .u32 p2, .int .u32 p3])) ∧ (d 2 = true → s 5 = (.agg #[.int .u32 x0, .int .u32 x1, .int .u32 x2, .int .u32 x3])) ∧ (d 3 = true → s 6 = (.agg #[.int .u32 p0, .int .u32 p1, .int .u32 p2, .int .u32 p3])) ∧ (d 4 = true → s 7 = .bool true) ∧ (d 5 = true → s 8 = .bool true) ∧ (d 6 = true → s 9 = .bool true) ∧ (d 7 = true → s 10 = .bool true) ∧ (d 8 = true → s 2 = .bool true)) rfl ?h0y1 (?sty1 : StepsF _ _ _ _ 9 _ _ [0, 1, 2, 3, 4, 5, 6, 7, 8]) ?dny1
  case h0y1 => exact ⟨Below.drew (Below.refl _ _), (fun h => nomatch h), (fun h => nomatch h), (fun h => nomatch h), (fun h => nomatch h), (fun h => nomatch h), (fun h => nomatch h), (fun h => nomatch h), (fun h => nomatch h), (fun h => nomatch h)⟩
  case sty1 =>
    refine StepsF.cons (o := _) rfl (ws := []) (by kernel_rfl) (by decide) (fun d s b w hF hd hw K hK => ?_) ?_
    · have hB : Below W0.heap.size W0 w := (p0_ hF.out)
      dsimp only
      have os := HS.out.later hB
      have s0 := os.at 0 _ rfl
      have s1 := os.at 1 _ rfl
      have s2 := os.at 2 _ rfl
      have s3 := os.at 3 _ rfl
      clear os
      go_simp
      exact hK.out (ups s 3 ((.agg #[.int .u32 x0, .int .u32 x1, .int .u32 x2, .int .u32 x3]))) b _ ⟨hB, (fun _ => rfl), (p2_ hF.out), (p3_ hF.out), (p4_ hF.out), (p5_ hF.out), (p6_ hF.out), (p7_ hF.out), (p8_ hF.out), (q9_ hF.out)⟩
    refine StepsF.cons (o := _) rfl (ws := [0]) (by kernel_rfl) (by decide) (fun d s b w hF hd hw K hK => ?_) ?_
    · have hB : Below W0.heap.size W0 w := (p0_ hF.out)
      have e0 : s 3 = (.agg #[.int .u32 x0, .int .u32 x1, .int .u32 x2, .int .u32 x3]) := (p1_ hF.out) (hw 0 (by decide))
      dsimp only
      go_simp
      go_at_call 5
      refine (HQ.out _).mono ?_
      rintro e w1 ⟨rfl, hb⟩
      exact hK.out (ups (ups s 3 ((.agg #[.int .u32 x0, .int .u32 x1, .int .u32 x2, .int .u32 x3]))) 4 ((.agg #[.int .u32 p0, .int .u32 p1, .int .u32 p2, .int .u32 p3]))) b _ ⟨(Below.go hB hb), (fun _ => rfl), (fun _ => rfl), (p3_ hF.out), (p4_ hF.out), (p5_ hF.out), (p6_ hF.out), (p7_ hF.out), (p8_ hF.out), (q9_ hF.out)⟩
    refine StepsF.cons (o := _) rfl (ws := []) (by kernel_rfl) (by decide) (fun d s b w hF hd hw K hK => ?_) ?_
    · have hB : Below W0.heap.size W0 w := (p0_ hF.out)
      dsimp only
      have os := HS.out.later hB
      have s0 := os.at 0 _ rfl
      have s1 := os.at 1 _ rfl
      have s2 := os.at 2 _ rfl
      have s3 := os.at 3 _ rfl
      clear os
      go_simp
      exact hK.out (ups s 5 ((.agg #[.int .u32 x0, .int .u32 x1, .int .u32 x2, .int .u32 x3]))) b _ ⟨hB, (p1_ hF.out), (p2_ hF.out), (fun _ => rfl), (p4_ hF.out), (p5_ hF.out), (p6_ hF.out), (p7_ hF.out), (p8_ hF.out), (q9_ hF.out)⟩
    refine StepsF.cons (o := _) rfl (ws := [2, 1]) (by kernel_rfl) (by decide) (fun d s b w hF hd hw K hK => ?_) ?_
    · have hB : Below W0.heap.size W0 w := (p0_ hF.out)
      have e1 : s 4 = (.agg #[.int .u32 p0, .int .u32 p1, .int .u32 p2, .int .u32 p3]) := (p2_ hF.out) (hw 1 (by decide))
      have e2 : s 5 = (.agg #[.int .u32 x0, .int .u32 x1, .int .u32 x2, .int .u32 x3]) := (p3_ hF.out) (hw 2 (by decide))
      dsimp only
      go_simp
      go_at_call 6
      refine (HR.out _).mono ?_
      rintro e w1 ⟨rfl, hb⟩
      exact hK.out (ups (ups (ups s 4 ((.agg #[.int .u32 p0, .int .u32 p1, .int .u32 p2, .int .u32 p3]))) 5 ((.agg #[.int .u32 x0, .int .u32 x1, .int .u32 x2, .int .u32 x3]))) 6 ((.agg #[.int .u32 p0, .int .u32 p1, .int .u32 p2, .int .u32 p3]))) b _ ⟨(Below.go hB hb), (p1_ hF.out), (fun _ => rfl), (fun _ => rfl), (fun _ => rfl), (p5_ hF.out), (p6_ hF.out), (p7_ hF.out), (p8_ hF.out), (q9_ hF.out)⟩
    refine StepsF.cons (o := _) rfl (ws := [1, 3]) (by kernel_rfl) (by decide) (fun d s b w hF hd hw K hK => ?_) ?_
    · have hB : Below W0.heap.size W0 w := (p0_ hF.out)
      have e1 : s 4 = (.agg #[.int .u32 p0, .int .u32 p1, .int .u32 p2, .int .u32 p3]) := (p2_ hF.out) (hw 1 (by decide))
      have e3 : s 6 = (.agg #[.int .u32 p0, .int .u32 p1, .int .u32 p2, .int .u32 p3]) := (p4_ hF.out) (hw 3 (by decide))
      dsimp only
      have hq := eql4 p0 p1 p2 p3 p0 p1 p2 p3 w
      rw [decide_eq_true ⟨rfl, rfl, rfl, rfl⟩] at hq
      go_simp
      exact hK.out (ups (ups (ups s 4 ((.agg #[.int .u32 p0, .int .u32 p1, .int .u32 p2, .int .u32 p3]))) 6 ((.agg #[.int .u32 p0, .int .u32 p1, .int .u32 p2, .int .u32 p3]))) 7 (.bool true)) b _ ⟨hB, (p1_ hF.out), (fun _ => rfl), (p3_ hF.out), (fun _ => rfl), (fun _ => rfl), (p6_ hF.out), (p7_ hF.out), (p8_ hF.out), (q9_ hF.out)⟩
    refine StepsF.cons (o := _) rfl (ws := [4, 3]) (by kernel_rfl) (by decide) (fun d s b w hF hd hw K hK => ?_) ?_
    · have hB : Below W0.heap.size W0 w := (p0_ hF.out)
      have e3 : s 6 = (.agg #[.int .u32 p0, .int .u32 p1, .int .u32 p2, .int .u32 p3]) := (p4_ hF.out) (hw 3 (by decide))
      have e4 : s 7 = .bool true := (p5_ hF.out) (hw 4 (by decide))
      dsimp only
      go_simp
      exact hK.out (ups (ups (ups s 6 ((.agg #[.int .u32 p0, .int .u32 p1, .int .u32 p2, .int .u32 p3]))) 7 (.bool true)) 8 (.bool true)) b _ ⟨hB, (p1_ hF.out), (p2_ hF.out), (p3_ hF.out), (fun _ => rfl), (fun _ => rfl), (fun _ => rfl), (p7_ hF.out), (p8_ hF.out), (q9_ hF.out)⟩
    refine StepsF.cons (o := _) rfl (ws := [5, 5]) (by kernel_rfl) (by decide) (fun d s b w hF hd hw K hK => ?_) ?_
    · have hB : Below W0.heap.size W0 w := (p0_ hF.out)
      have e5 : s 8 = .bool true := (p6_ hF.out) (hw 5 (by decide))
      dsimp only
      go_simp
      go_at_call 7
      refine (works_any _).mono ?_
      rintro e w1 ⟨rfl, hb⟩
      exact hK.out (ups (ups s 8 (.bool true)) 9 (.bool true)) b _ ⟨(Below.go hB hb), (p1_ hF.out), (p2_ hF.out), (p3_ hF.out), (p4_ hF.out), (p5_ hF.out), (fun _ => rfl), (fun _ => rfl), (p8_ hF.out), (q9_ hF.out)⟩
    refine StepsF.cons (o := _) rfl (ws := [5, 6]) (by kernel_rfl) (by decide) (fun d s b w hF hd hw K hK => ?_) ?_
    · have hB : Below W0.heap.size W0 w := (p0_ hF.out)
      have e5 : s 8 = .bool true := (p6_ hF.out) (hw 5 (by decide))
      have e6 : s 9 = .bool true := (p7_ hF.out) (hw 6 (by decide))
      dsimp only
      go_simp
      exact hK.out (ups (ups (ups s 8 (.bool true)) 9 (.bool true)) 10 (.bool true)) b _ ⟨hB, (p1_ hF.out), (p2_ hF.out), (p3_ hF.out), (p4_ hF.out), (p5_ hF.out), (fun _ => rfl), (fun _ => rfl), (fun _ => rfl), (q9_ hF.out)⟩
    refine StepsF.cons (o := _) rfl (ws := [7, 6, 0, 1, 2, 3, 4, 5, 6, 7]) (by kernel_rfl) (by decide) (fun d s b w hF hd hw K hK => ?_) ?_
    · have hB : Below W0.heap.size W0 w := (p0_ hF.out)
      have e0 : s 3 = (.agg #[.int .u32 x0, .int .u32 x1, .int .u32 x2, .int .u32 x3]) := (p1_ hF.out) (hw 0 (by decide))
      have e1 : s 4 = (.agg #[.int .u32 p0, .int .u32 p1, .int .u32 p2, .int .u32 p3]) := (p2_ hF.out) (hw 1 (by decide))
      have e2 : s 5 = (.agg #[.int .u32 x0, .int .u32 x1, .int .u32 x2, .int .u32 x3]) := (p3_ hF.out) (hw 2 (by decide))
      have e3 : s 6 = (.agg #[.int .u32 p0, .int .u32 p1, .int .u32 p2, .int .u32 p3]) := (p4_ hF.out) (hw 3 (by decide))
      have e4 : s 7 = .bool true := (p5_ hF.out) (hw 4 (by decide))
      have e5 : s 8 = .bool true := (p6_ hF.out) (hw 5 (by decide))
      have e6 : s 9 = .bool true := (p7_ hF.out) (hw 6 (by decide))
      have e7 : s 10 = .bool true := (p8_ hF.out) (hw 7 (by decide))
      dsimp only
      go_simp
      exact hK.out (ups (ups (ups (ups (ups (ups (ups (ups (ups s 3 ((.agg #[.int .u32 x0, .int .u32 x1, .int .u32 x2, .int .u32 x3]))) 4 ((.agg #[.int .u32 p0, .int .u32 p1, .int .u32 p2, .int .u32 p3]))) 5 ((.agg #[.int .u32 x0, .int .u32 x1, .int .u32 x2, .int .u32 x3]))) 6 ((.agg #[.int .u32 p0, .int .u32 p1, .int .u32 p2, .int .u32 p3]))) 7 (.bool true)) 8 (.bool true)) 9 (.bool true)) 10 (.bool true)) 2 (.bool true)) b _ ⟨hB, (fun _ => rfl), (fun _ => rfl), (fun _ => rfl), (fun _ => rfl), (fun _ => rfl), (fun _ => rfl), (fun _ => rfl), (fun _ => rfl), (fun _ => rfl)⟩
    exact StepsF.nil
  intro d s b y1 hF hall
  replace hF := Lib.hid hF
  have hB : Below W0.heap.size W0 y1 := (p0_ hF.out)
  try dsimp only
  have e0 : s 3 = (.agg #[.int .u32 x0, .int .u32 x1, .int .u32 x2, .int .u32 x3]) := (p1_ hF.out) (hall 0 (by decide))
  have e1 : s 4 = (.agg #[.int .u32 p0, .int .u32 p1, .int .u32 p2, .int .u32 p3]) := (p2_ hF.out) (hall 1 (by decide))
  have e2 : s 5 = (.agg #[.int .u32 x0, .int .u32 x1, .int .u32 x2, .int .u32 x3]) := (p3_ hF.out) (hall 2 (by decide))
  have e3 : s 6 = (.agg #[.int .u32 p0, .int .u32 p1, .int .u32 p2, .int .u32 p3]) := (p4_ hF.out) (hall 3 (by decide))
  have e4 : s 7 = .bool true := (p5_ hF.out) (hall 4 (by decide))
  have e5 : s 8 = .bool true := (p6_ hF.out) (hall 5 (by decide))
  have e6 : s 9 = .bool true := (p7_ hF.out) (hall 6 (by decide))
  have e7 : s 10 = .bool true := (p8_ hF.out) (hall 7 (by decide))
  have e8 : s 2 = .bool true := (q9_ hF.out) (hall 8 (by decide))
  rw [e0, e1, e2, e3, e4, e5, e6, e7, e8]
  clear hall hF e0 e1 e2 e3 e4 e5 e6 e7 e8
  clear d s b
  go_wp2_with (fail)
  go_ret
  exact ⟨rfl, Below.go hB0 hB⟩

set_option maxHeartbeats 4000000 in
theorem Turns_core (x0 x1 x2 x3 y0 y1 y2 y3 : Int) (ha : in32 x0) (hb : in32 x1) (hc : in32 x2) (hd : in32 x3) (ka : in32 y0) (kb : in32 y1) (kc : in32 y2) (kd : in32 y3) (w : World) : Calls Try.prog 4 #[(.agg #[.int .u32 x0, .int .u32 x1, .int .u32 x2, .int .u32 x3]), (.agg #[.int .u32 y0, .int .u32 y1, .int .u32 y2, .int .u32 y3])] w fun e w' => e = .returned (.bool true) ∧ Below w.heap.size w w' := by
  have HQ := Lib.hid (Quarter_any x0 x1 x2 x3 ha hb hc hd)
  have HR := Lib.hid (Quarter_any y0 y1 y2 y3 ka kb kc kd)
  have HJ := Lib.hid (show quarterF ⟨x0, x1, x2, x3⟩ = quarterF ⟨y0, y1, y2, y3⟩ → (⟨x0, x1, x2, x3⟩ : Four) = ⟨y0, y1, y2, y3⟩ from quarterF_inj ⟨ha, hb, hc, hd⟩ ⟨ka, kb, kc, kd⟩)
  clear ha hb hc hd ka kb kc kd
  obtain ⟨E, hE⟩ : ∃ E, decide (x0 = y0 ∧ x1 = y1 ∧ x2 = y2 ∧ x3 = y3) = E := ⟨_, rfl⟩
  obtain ⟨p0, ep0⟩ : ∃ z, (quarterF ⟨x0, x1, x2, x3⟩).a = z := ⟨_, rfl⟩
  obtain ⟨p1, ep1⟩ : ∃ z, (quarterF ⟨x0, x1, x2, x3⟩).b = z := ⟨_, rfl⟩
  obtain ⟨p2, ep2⟩ : ∃ z, (quarterF ⟨x0, x1, x2, x3⟩).c = z := ⟨_, rfl⟩
  obtain ⟨p3, ep3⟩ : ∃ z, (quarterF ⟨x0, x1, x2, x3⟩).d = z := ⟨_, rfl⟩
  obtain ⟨q0, eq0⟩ : ∃ z, (quarterF ⟨y0, y1, y2, y3⟩).a = z := ⟨_, rfl⟩
  obtain ⟨q1, eq1⟩ : ∃ z, (quarterF ⟨y0, y1, y2, y3⟩).b = z := ⟨_, rfl⟩
  obtain ⟨q2, eq2⟩ : ∃ z, (quarterF ⟨y0, y1, y2, y3⟩).c = z := ⟨_, rfl⟩
  obtain ⟨q3, eq3⟩ : ∃ z, (quarterF ⟨y0, y1, y2, y3⟩).d = z := ⟨_, rfl⟩
  have hE2 : decide (p0 = q0 ∧ p1 = q1 ∧ p2 = q2 ∧ p3 = q3) = E := by
    rw [← hE, decide_eq_decide]
    constructor
    · intro h
      have h2 := HJ.out (by
        rw [show quarterF ⟨x0, x1, x2, x3⟩ = ⟨p0, p1, p2, p3⟩ by rw [← ep0, ← ep1, ← ep2, ← ep3], show quarterF ⟨y0, y1, y2, y3⟩ = ⟨q0, q1, q2, q3⟩ by rw [← eq0, ← eq1, ← eq2, ← eq3], h.1, h.2.1, h.2.2.1, h.2.2.2])
      simp only [Four.mk.injEq] at h2
      exact h2
    · rintro ⟨rfl, rfl, rfl, rfl⟩
      exact ⟨ep0 ▸ eq0 ▸ rfl, ep1 ▸ eq1 ▸ rfl, ep2 ▸ eq2 ▸ rfl, ep3 ▸ eq3 ▸ rfl⟩
  rw [ep0, ep1, ep2, ep3] at HQ
  rw [eq0, eq1, eq2, eq3] at HR
  replace hE := Lib.hid hE; replace hE2 := Lib.hid hE2
  clear HJ ep0 ep1 ep2 ep3 eq0 eq1 eq2 eq3
  go_enter Try.func4, Try.ntmps4
  go_upto_region 1 with fail
  obtain ⟨W0, hW⟩ : ∃ W0, W0 = ((w.alloc (.cells #[.int .u32 x0, .int .u32 x1, .int .u32 x2, .int .u32 x3] 23)).alloc (.cells #[.int .u32 y0, .int .u32 y1, .int .u32 y2, .int .u32 y3] 23)) := ⟨_, rfl⟩
  have hB0 : Below w.heap.size w W0 := hW ▸ (Below.al (Below.al (Below.refl _ _)))
  have HS : Hid (Own w.heap.size [.int .u32 x0, .int .u32 x1, .int .u32 x2, .int .u32 x3] W0) := Lib.hid (hW ▸ (Own.newAt (by simp)).alloc)
  have HT : Hid (Own (w.heap.size + 1) [.int .u32 y0, .int .u32 y1, .int .u32 y2, .int .u32 y3] W0) := Lib.hid (hW ▸ (Own.newAt (by simp)))
  rw [← hW]
  clear hW
  obtain ⟨T, eT⟩ : ∃ X, X = (w.heap.size + 1) := ⟨_, rfl⟩
  rw [← eT] at HT ⊢
  have Tw : w.heap.size ≤ T := by omega
  obtain ⟨S, eS⟩ : ∃ X, X = w.heap.size := ⟨_, rfl⟩
  rw [← eS] at HS ⊢
  have Sw : w.heap.size ≤ S := by omega
  have nST : S ≠ T := by omega
  have nTS : T ≠ S := by omega
  clear eS eT
  refine wp_region_fun 13 (by kernel_rfl) (by kernel_rfl) rfl (fun s b => ⟨#[(.agg #[.int .u32 x0, .int .u32 x1, .int .u32 x2, .int .u32 x3]), (.agg #[.int .u32 y0, .int .u32 y1, .int .u32 y2, .int .u32 y3]), .pointer (some ⟨S, 0, none⟩), .pointer (some ⟨T, 0, none⟩), s 4, s 5, s 6, s 7, s 8, s 9, s 10, s 11, s 12, s 13, s 14, s 15, s 16], []⟩) (fun d s b w => (Below W0.heap.size W0 w) ∧ (d 0 = true → s 5 = (.agg #[.int .u32 x0, .int .u32 x1, .int .u32 x2, .int .u32 x3])) ∧ (d 1 = true → s 6 = (.agg #[.int .u32 p0, .int .u32 p1, .int .u32 p2, .int .u32 p3])) ∧ (d 2 = true → s 7 = (.agg #[.int .u32 y0, .int .u32 y1, .int .u32 y2, .int .u32 y3])) ∧ (d 3 = true → s 8 = (.agg #[.int .u32 q0, .int .u32 q1, .int .u32 q2, .int .u32 q3])) ∧ (d 4 = true → s 9 = .bool E) ∧ (d 5 = true → s 10 = (.agg #[.int .u32 x0, .int .u32 x1, .int .u32 x2, .int .u32 x3])) ∧ (d 6 = true → s 11 = (.agg #[.int .u32 y0, .int .u32 y1, .int .u32 y2, .int .u32 y3])) ∧ (d 7 = true → s 12 = .bool E) ∧ (d 8 = true → s 13 = .bool true) ∧ (d 9 = true → s 14 = .bool true) ∧ (d 10 = true → s 15 = .bool true) ∧ (d 11 = true → s 16 = .bool true) ∧ (d 12 = true → s 4 = .bool true)) rfl ?h0z1 (?stz1 : StepsF _ _ _ _ 13 _ _ [0, 1, 2, 3, 4, 5, 6, 7, 8, 9, 10, 11, 12]) ?dnz1
  case h0z1 => exact ⟨Below.drew (Below.refl _ _), (fun h => nomatch h), (fun h => nomatch h), (fun h => nomatch h), (fun h => nomatch h), (fun h => nomatch h), (fun h => nomatch h), (fun h => nomatch h), (fun h => nomatch h), (fun h => nomatch h), (fun h => nomatch h), (fun h => nomatch h), (fun h => nomatch h), (fun h => nomatch h)⟩
  case stz1 =>
    refine StepsF.cons (o := _) rfl (ws := []) (by kernel_rfl) (by decide) (fun d s b w hF hd hw K hK => ?_) ?_
    · have hB : Below W0.heap.size W0 w := (p0_ hF.out)
      dsimp only
      have os := HS.out.later hB
      have s0 := os.at 0 _ rfl
      have s1 := os.at 1 _ rfl
      have s2 := os.at 2 _ rfl
      have s3 := os.at 3 _ rfl
      clear os
      have ot := HT.out.later hB
      have t0 := ot.at 0 _ rfl
      have t1 := ot.at 1 _ rfl
      have t2 := ot.at 2 _ rfl
      have t3 := ot.at 3 _ rfl
      clear ot
      go_simp
      exact hK.out (ups s 5 ((.agg #[.int .u32 x0, .int .u32 x1, .int .u32 x2, .int .u32 x3]))) b _ ⟨hB, (fun _ => rfl), (p2_ hF.out), (p3_ hF.out), (p4_ hF.out), (p5_ hF.out), (p6_ hF.out), (p7_ hF.out), (p8_ hF.out), (p9_ hF.out), (p10_ hF.out), (p11_ hF.out), (p12_ hF.out), (q13_ hF.out)⟩
    refine StepsF.cons (o := _) rfl (ws := [0]) (by kernel_rfl) (by decide) (fun d s b w hF hd hw K hK => ?_) ?_
    · have hB : Below W0.heap.size W0 w := (p0_ hF.out)
      have e0 : s 5 = (.agg #[.int .u32 x0, .int .u32 x1, .int .u32 x2, .int .u32 x3]) := (p1_ hF.out) (hw 0 (by decide))
      dsimp only
      go_simp
      go_at_call 5
      refine (HQ.out _).mono ?_
      rintro e w1 ⟨rfl, hb⟩
      exact hK.out (ups (ups s 5 ((.agg #[.int .u32 x0, .int .u32 x1, .int .u32 x2, .int .u32 x3]))) 6 ((.agg #[.int .u32 p0, .int .u32 p1, .int .u32 p2, .int .u32 p3]))) b _ ⟨(Below.go hB hb), (fun _ => rfl), (fun _ => rfl), (p3_ hF.out), (p4_ hF.out), (p5_ hF.out), (p6_ hF.out), (p7_ hF.out), (p8_ hF.out), (p9_ hF.out), (p10_ hF.out), (p11_ hF.out), (p12_ hF.out), (q13_ hF.out)⟩
    refine StepsF.cons (o := _) rfl (ws := []) (by kernel_rfl) (by decide) (fun d s b w hF hd hw K hK => ?_) ?_
    · have hB : Below W0.heap.size W0 w := (p0_ hF.out)
      dsimp only
      have os := HS.out.later hB
      have s0 := os.at 0 _ rfl
      have s1 := os.at 1 _ rfl
      have s2 := os.at 2 _ rfl
      have s3 := os.at 3 _ rfl
      clear os
      have ot := HT.out.later hB
      have t0 := ot.at 0 _ rfl
      have t1 := ot.at 1 _ rfl
      have t2 := ot.at 2 _ rfl
      have t3 := ot.at 3 _ rfl
      clear ot
      go_simp
      exact hK.out (ups s 7 ((.agg #[.int .u32 y0, .int .u32 y1, .int .u32 y2, .int .u32 y3]))) b _ ⟨hB, (p1_ hF.out), (p2_ hF.out), (fun _ => rfl), (p4_ hF.out), (p5_ hF.out), (p6_ hF.out), (p7_ hF.out), (p8_ hF.out), (p9_ hF.out), (p10_ hF.out), (p11_ hF.out), (p12_ hF.out), (q13_ hF.out)⟩
    refine StepsF.cons (o := _) rfl (ws := [2, 1]) (by kernel_rfl) (by decide) (fun d s b w hF hd hw K hK => ?_) ?_
    · have hB : Below W0.heap.size W0 w := (p0_ hF.out)
      have e1 : s 6 = (.agg #[.int .u32 p0, .int .u32 p1, .int .u32 p2, .int .u32 p3]) := (p2_ hF.out) (hw 1 (by decide))
      have e2 : s 7 = (.agg #[.int .u32 y0, .int .u32 y1, .int .u32 y2, .int .u32 y3]) := (p3_ hF.out) (hw 2 (by decide))
      dsimp only
      go_simp
      go_at_call 5
      refine (HR.out _).mono ?_
      rintro e w1 ⟨rfl, hb⟩
      exact hK.out (ups (ups (ups s 6 ((.agg #[.int .u32 p0, .int .u32 p1, .int .u32 p2, .int .u32 p3]))) 7 ((.agg #[.int .u32 y0, .int .u32 y1, .int .u32 y2, .int .u32 y3]))) 8 ((.agg #[.int .u32 q0, .int .u32 q1, .int .u32 q2, .int .u32 q3]))) b _ ⟨(Below.go hB hb), (p1_ hF.out), (fun _ => rfl), (fun _ => rfl), (fun _ => rfl), (p5_ hF.out), (p6_ hF.out), (p7_ hF.out), (p8_ hF.out), (p9_ hF.out), (p10_ hF.out), (p11_ hF.out), (p12_ hF.out), (q13_ hF.out)⟩
    refine StepsF.cons (o := _) rfl (ws := [1, 3]) (by kernel_rfl) (by decide) (fun d s b w hF hd hw K hK => ?_) ?_
    · have hB : Below W0.heap.size W0 w := (p0_ hF.out)
      have e1 : s 6 = (.agg #[.int .u32 p0, .int .u32 p1, .int .u32 p2, .int .u32 p3]) := (p2_ hF.out) (hw 1 (by decide))
      have e3 : s 8 = (.agg #[.int .u32 q0, .int .u32 q1, .int .u32 q2, .int .u32 q3]) := (p4_ hF.out) (hw 3 (by decide))
      dsimp only
      have hq := eql4 p0 p1 p2 p3 q0 q1 q2 q3 w
      rw [hE2.out] at hq
      go_simp
      exact hK.out (ups (ups (ups s 6 ((.agg #[.int .u32 p0, .int .u32 p1, .int .u32 p2, .int .u32 p3]))) 8 ((.agg #[.int .u32 q0, .int .u32 q1, .int .u32 q2, .int .u32 q3]))) 9 (.bool E)) b _ ⟨hB, (p1_ hF.out), (fun _ => rfl), (p3_ hF.out), (fun _ => rfl), (fun _ => rfl), (p6_ hF.out), (p7_ hF.out), (p8_ hF.out), (p9_ hF.out), (p10_ hF.out), (p11_ hF.out), (p12_ hF.out), (q13_ hF.out)⟩
    refine StepsF.cons (o := _) rfl (ws := []) (by kernel_rfl) (by decide) (fun d s b w hF hd hw K hK => ?_) ?_
    · have hB : Below W0.heap.size W0 w := (p0_ hF.out)
      dsimp only
      have os := HS.out.later hB
      have s0 := os.at 0 _ rfl
      have s1 := os.at 1 _ rfl
      have s2 := os.at 2 _ rfl
      have s3 := os.at 3 _ rfl
      clear os
      have ot := HT.out.later hB
      have t0 := ot.at 0 _ rfl
      have t1 := ot.at 1 _ rfl
      have t2 := ot.at 2 _ rfl
      have t3 := ot.at 3 _ rfl
      clear ot
      go_simp
      exact hK.out (ups s 10 ((.agg #[.int .u32 x0, .int .u32 x1, .int .u32 x2, .int .u32 x3]))) b _ ⟨hB, (p1_ hF.out), (p2_ hF.out), (p3_ hF.out), (p4_ hF.out), (p5_ hF.out), (fun _ => rfl), (p7_ hF.out), (p8_ hF.out), (p9_ hF.out), (p10_ hF.out), (p11_ hF.out), (p12_ hF.out), (q13_ hF.out)⟩
    refine StepsF.cons (o := _) rfl (ws := []) (by kernel_rfl) (by decide) (fun d s b w hF hd hw K hK => ?_) ?_
    · have hB : Below W0.heap.size W0 w := (p0_ hF.out)
      dsimp only
      have os := HS.out.later hB
      have s0 := os.at 0 _ rfl
      have s1 := os.at 1 _ rfl
      have s2 := os.at 2 _ rfl
      have s3 := os.at 3 _ rfl
      clear os
      have ot := HT.out.later hB
      have t0 := ot.at 0 _ rfl
      have t1 := ot.at 1 _ rfl
      have t2 := ot.at 2 _ rfl
      have t3 := ot.at 3 _ rfl
      clear ot
      go_simp
      exact hK.out (ups s 11 ((.agg #[.int .u32 y0, .int .u32 y1, .int .u32 y2, .int .u32 y3]))) b _ ⟨hB, (p1_ hF.out), (p2_ hF.out), (p3_ hF.out), (p4_ hF.out), (p5_ hF.out), (p6_ hF.out), (fun _ => rfl), (p8_ hF.out), (p9_ hF.out), (p10_ hF.out), (p11_ hF.out), (p12_ hF.out), (q13_ hF.out)⟩
    refine StepsF.cons (o := _) rfl (ws := [5, 6]) (by kernel_rfl) (by decide) (fun d s b w hF hd hw K hK => ?_) ?_
    · have hB : Below W0.heap.size W0 w := (p0_ hF.out)
      have e5 : s 10 = (.agg #[.int .u32 x0, .int .u32 x1, .int .u32 x2, .int .u32 x3]) := (p6_ hF.out) (hw 5 (by decide))
      have e6 : s 11 = (.agg #[.int .u32 y0, .int .u32 y1, .int .u32 y2, .int .u32 y3]) := (p7_ hF.out) (hw 6 (by decide))
      dsimp only
      have hq := eql4 x0 x1 x2 x3 y0 y1 y2 y3 w
      rw [hE.out] at hq
      go_simp
      exact hK.out (ups (ups (ups s 10 ((.agg #[.int .u32 x0, .int .u32 x1, .int .u32 x2, .int .u32 x3]))) 11 ((.agg #[.int .u32 y0, .int .u32 y1, .int .u32 y2, .int .u32 y3]))) 12 (.bool E)) b _ ⟨hB, (p1_ hF.out), (p2_ hF.out), (p3_ hF.out), (p4_ hF.out), (p5_ hF.out), (fun _ => rfl), (fun _ => rfl), (fun _ => rfl), (p9_ hF.out), (p10_ hF.out), (p11_ hF.out), (p12_ hF.out), (q13_ hF.out)⟩
    refine StepsF.cons (o := _) rfl (ws := [4, 7]) (by kernel_rfl) (by decide) (fun d s b w hF hd hw K hK => ?_) ?_
    · have hB : Below W0.heap.size W0 w := (p0_ hF.out)
      have e4 : s 9 = .bool E := (p5_ hF.out) (hw 4 (by decide))
      have e7 : s 12 = .bool E := (p8_ hF.out) (hw 7 (by decide))
      dsimp only
      go_simp
      exact hK.out (ups (ups (ups s 9 (.bool E)) 12 (.bool E)) 13 (.bool true)) b _ ⟨hB, (p1_ hF.out), (p2_ hF.out), (p3_ hF.out), (p4_ hF.out), (fun _ => rfl), (p6_ hF.out), (p7_ hF.out), (fun _ => rfl), (fun _ => rfl), (p10_ hF.out), (p11_ hF.out), (p12_ hF.out), (q13_ hF.out)⟩
    refine StepsF.cons (o := _) rfl (ws := [8, 3]) (by kernel_rfl) (by decide) (fun d s b w hF hd hw K hK => ?_) ?_
    · have hB : Below W0.heap.size W0 w := (p0_ hF.out)
      have e3 : s 8 = (.agg #[.int .u32 q0, .int .u32 q1, .int .u32 q2, .int .u32 q3]) := (p4_ hF.out) (hw 3 (by decide))
      have e8 : s 13 = .bool true := (p9_ hF.out) (hw 8 (by decide))
      dsimp only
      go_simp
      exact hK.out (ups (ups (ups s 8 ((.agg #[.int .u32 q0, .int .u32 q1, .int .u32 q2, .int .u32 q3]))) 13 (.bool true)) 14 (.bool true)) b _ ⟨hB, (p1_ hF.out), (p2_ hF.out), (p3_ hF.out), (fun _ => rfl), (p5_ hF.out), (p6_ hF.out), (p7_ hF.out), (p8_ hF.out), (fun _ => rfl), (fun _ => rfl), (p11_ hF.out), (p12_ hF.out), (q13_ hF.out)⟩
    refine StepsF.cons (o := _) rfl (ws := [9, 9]) (by kernel_rfl) (by decide) (fun d s b w hF hd hw K hK => ?_) ?_
    · have hB : Below W0.heap.size W0 w := (p0_ hF.out)
      have e9 : s 14 = .bool true := (p10_ hF.out) (hw 9 (by decide))
      dsimp only
      go_simp
      go_at_call 7
      refine (works_any _).mono ?_
      rintro e w1 ⟨rfl, hb⟩
      exact hK.out (ups (ups s 14 (.bool true)) 15 (.bool true)) b _ ⟨(Below.go hB hb), (p1_ hF.out), (p2_ hF.out), (p3_ hF.out), (p4_ hF.out), (p5_ hF.out), (p6_ hF.out), (p7_ hF.out), (p8_ hF.out), (p9_ hF.out), (fun _ => rfl), (fun _ => rfl), (p12_ hF.out), (q13_ hF.out)⟩
    refine StepsF.cons (o := _) rfl (ws := [9, 10]) (by kernel_rfl) (by decide) (fun d s b w hF hd hw K hK => ?_) ?_
    · have hB : Below W0.heap.size W0 w := (p0_ hF.out)
      have e9 : s 14 = .bool true := (p10_ hF.out) (hw 9 (by decide))
      have e10 : s 15 = .bool true := (p11_ hF.out) (hw 10 (by decide))
      dsimp only
      go_simp
      exact hK.out (ups (ups (ups s 14 (.bool true)) 15 (.bool true)) 16 (.bool true)) b _ ⟨hB, (p1_ hF.out), (p2_ hF.out), (p3_ hF.out), (p4_ hF.out), (p5_ hF.out), (p6_ hF.out), (p7_ hF.out), (p8_ hF.out), (p9_ hF.out), (fun _ => rfl), (fun _ => rfl), (fun _ => rfl), (q13_ hF.out)⟩
    refine StepsF.cons (o := _) rfl (ws := [11, 10, 0, 1, 2, 3, 4, 5, 6, 7, 8, 9, 10, 11]) (by kernel_rfl) (by decide) (fun d s b w hF hd hw K hK => ?_) ?_
    · have hB : Below W0.heap.size W0 w := (p0_ hF.out)
      have e0 : s 5 = (.agg #[.int .u32 x0, .int .u32 x1, .int .u32 x2, .int .u32 x3]) := (p1_ hF.out) (hw 0 (by decide))
      have e1 : s 6 = (.agg #[.int .u32 p0, .int .u32 p1, .int .u32 p2, .int .u32 p3]) := (p2_ hF.out) (hw 1 (by decide))
      have e2 : s 7 = (.agg #[.int .u32 y0, .int .u32 y1, .int .u32 y2, .int .u32 y3]) := (p3_ hF.out) (hw 2 (by decide))
      have e3 : s 8 = (.agg #[.int .u32 q0, .int .u32 q1, .int .u32 q2, .int .u32 q3]) := (p4_ hF.out) (hw 3 (by decide))
      have e4 : s 9 = .bool E := (p5_ hF.out) (hw 4 (by decide))
      have e5 : s 10 = (.agg #[.int .u32 x0, .int .u32 x1, .int .u32 x2, .int .u32 x3]) := (p6_ hF.out) (hw 5 (by decide))
      have e6 : s 11 = (.agg #[.int .u32 y0, .int .u32 y1, .int .u32 y2, .int .u32 y3]) := (p7_ hF.out) (hw 6 (by decide))
      have e7 : s 12 = .bool E := (p8_ hF.out) (hw 7 (by decide))
      have e8 : s 13 = .bool true := (p9_ hF.out) (hw 8 (by decide))
      have e9 : s 14 = .bool true := (p10_ hF.out) (hw 9 (by decide))
      have e10 : s 15 = .bool true := (p11_ hF.out) (hw 10 (by decide))
      have e11 : s 16 = .bool true := (p12_ hF.out) (hw 11 (by decide))
      dsimp only
      go_simp
      exact hK.out (ups (ups (ups (ups (ups (ups (ups (ups (ups (ups (ups (ups (ups s 5 ((.agg #[.int .u32 x0, .int .u32 x1, .int .u32 x2, .int .u32 x3]))) 6 ((.agg #[.int .u32 p0, .int .u32 p1, .int .u32 p2, .int .u32 p3]))) 7 ((.agg #[.int .u32 y0, .int .u32 y1, .int .u32 y2, .int .u32 y3]))) 8 ((.agg #[.int .u32 q0, .int .u32 q1, .int .u32 q2, .int .u32 q3]))) 9 (.bool E)) 10 ((.agg #[.int .u32 x0, .int .u32 x1, .int .u32 x2, .int .u32 x3]))) 11 ((.agg #[.int .u32 y0, .int .u32 y1, .int .u32 y2, .int .u32 y3]))) 12 (.bool E)) 13 (.bool true)) 14 (.bool true)) 15 (.bool true)) 16 (.bool true)) 4 (.bool true)) b _ ⟨hB, (fun _ => rfl), (fun _ => rfl), (fun _ => rfl), (fun _ => rfl), (fun _ => rfl), (fun _ => rfl), (fun _ => rfl), (fun _ => rfl), (fun _ => rfl), (fun _ => rfl), (fun _ => rfl), (fun _ => rfl), (fun _ => rfl)⟩
    exact StepsF.nil
  intro d s b z1 hF hall
  replace hF := Lib.hid hF
  have hB : Below W0.heap.size W0 z1 := (p0_ hF.out)
  try dsimp only
  have e0 : s 5 = (.agg #[.int .u32 x0, .int .u32 x1, .int .u32 x2, .int .u32 x3]) := (p1_ hF.out) (hall 0 (by decide))
  have e1 : s 6 = (.agg #[.int .u32 p0, .int .u32 p1, .int .u32 p2, .int .u32 p3]) := (p2_ hF.out) (hall 1 (by decide))
  have e2 : s 7 = (.agg #[.int .u32 y0, .int .u32 y1, .int .u32 y2, .int .u32 y3]) := (p3_ hF.out) (hall 2 (by decide))
  have e3 : s 8 = (.agg #[.int .u32 q0, .int .u32 q1, .int .u32 q2, .int .u32 q3]) := (p4_ hF.out) (hall 3 (by decide))
  have e4 : s 9 = .bool E := (p5_ hF.out) (hall 4 (by decide))
  have e5 : s 10 = (.agg #[.int .u32 x0, .int .u32 x1, .int .u32 x2, .int .u32 x3]) := (p6_ hF.out) (hall 5 (by decide))
  have e6 : s 11 = (.agg #[.int .u32 y0, .int .u32 y1, .int .u32 y2, .int .u32 y3]) := (p7_ hF.out) (hall 6 (by decide))
  have e7 : s 12 = .bool E := (p8_ hF.out) (hall 7 (by decide))
  have e8 : s 13 = .bool true := (p9_ hF.out) (hall 8 (by decide))
  have e9 : s 14 = .bool true := (p10_ hF.out) (hall 9 (by decide))
  have e10 : s 15 = .bool true := (p11_ hF.out) (hall 10 (by decide))
  have e11 : s 16 = .bool true := (p12_ hF.out) (hall 11 (by decide))
  have e12 : s 4 = .bool true := (q13_ hF.out) (hall 12 (by decide))
  rw [e0, e1, e2, e3, e4, e5, e6, e7, e8, e9, e10, e11, e12]
  clear hall hF e0 e1 e2 e3 e4 e5 e6 e7 e8 e9 e10 e11 e12
  clear d s b
  go_wp2_with (fail)
  go_ret
  exact ⟨rfl, Below.go hB0 hB⟩
end Go.Proofs.Ytbcpoohoclobpaa
