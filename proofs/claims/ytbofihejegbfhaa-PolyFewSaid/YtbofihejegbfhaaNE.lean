/- poly.fold, poly.rest. -/
import Derived.Test.YtbofihejegbfhaaND
import Derived.Lib.Hide
namespace Go.Proofs.Ytbofihejegbfhaa
set_option linter.unusedVariables false
set_option maxRecDepth 2000
set_option linter.unusedSimpArgs false
open Go.RowKit
/-- 2^130 - 5 -/
def PP : Nat := 1361129467683753853853498429727072845819
/-- 2^130 -/
def TT : Nat := 1361129467683753853853498429727072845824
theorem and3 (x : Int) (h : inU x) : bits .and .u64 x 3 = x % 4 := by
  obtain ⟨a, rfl⟩ := Int.eq_ofNat_of_zero_le h.1
  have := h.2
  rw [show (3 : Int) = ((3 : Nat) : Int) from rfl, u64_and_nat a 3 (by omega) (by decide), show (3 : Nat) = 2 ^ 2 - 1 from rfl, Nat.and_two_pow_sub_one_eq_mod]
  omega
theorem or62 (x y : Int) (hx : inU x) (hy : inU y) : bits .or .u64 (x / 4) (y * 4611686018427387904 % 18446744073709551616) = x / 4 + y % 4 * 4611686018427387904 := by
  obtain ⟨a, rfl⟩ := Int.eq_ofNat_of_zero_le hx.1
  obtain ⟨b, rfl⟩ := Int.eq_ofNat_of_zero_le hy.1
  have h1 := hx.2; have h2 := hy.2
  have e1 : (a : Int) / 4 = ((a / 4 : Nat) : Int) := by omega
  have e2 : (b : Int) * 4611686018427387904 % 18446744073709551616 = ((2 ^ 62 * (b % 4) : Nat) : Int) := by omega
  rw [e1, e2, u64_or_nat _ _ (by omega) (by omega), Nat.or_comm, ← Nat.two_pow_add_eq_or_of_lt (i := 62) (by omega)]
  omega
/-- the number's four limbs -/
theorem limb_parts (N : Nat) (h : N < 2 ^ 256) : ∃ n0 n1 n2 n3 : Nat, n0 < 18446744073709551616 ∧ n1 < 18446744073709551616 ∧ n2 < 18446744073709551616 ∧ n3 < 18446744073709551616 ∧ N = n0 + 18446744073709551616 * n1 + 340282366920938463463374607431768211456 * n2 + 6277101735386680763835789423207666416102355444464034512896 * n3 ∧
    limb N 0 = n0 ∧ limb N 1 = n1 ∧ limb N 2 = n2 ∧ limb N 3 = n3 := by
  refine ⟨N / 2 ^ (64 * 0) % 18446744073709551616, N / 2 ^ (64 * 1) % 18446744073709551616, N / 2 ^ (64 * 2) % 18446744073709551616, N / 2 ^ (64 * 3) % 18446744073709551616, by omega, by omega, by omega, by omega, ?_, rfl, rfl, rfl, rfl⟩
  simp only [Nat.reduceMul, Nat.reducePow] at *
  omega
theorem nums4 (f : Nat → Int) : nums .u64 f 4 = [.int .u64 (f 0), .int .u64 (f 1), .int .u64 (f 2), .int .u64 (f 3)] := rfl
theorem limb_small (x i : Nat) (h : x < 18446744073709551616) : limb x i = if i = 0 then (x : Int) else 0 := by
  unfold limb
  by_cases e : i = 0
  · subst e; rw [if_pos rfl]; simp only [Nat.mul_zero, Nat.pow_zero, Nat.div_one]; omega
  · rw [if_neg e]
    obtain ⟨j, rfl⟩ : ∃ j, i = j + 1 := ⟨i - 1, by omega⟩
    rw [pw64, Nat.div_eq_of_lt]
    · rfl
    · have : 1 ≤ 2 ^ (64 * j) := Nat.two_pow_pos _
      have := Nat.mul_le_mul_right 18446744073709551616 this
      omega
theorem nums_small (x : Nat) (h : x < 18446744073709551616) : (nums .u64 (limb x) 4).toArray = #[.int .u64 (x : Int), .int .u64 0, .int .u64 0, .int .u64 0] := by
  rw [nums4, limb_small x 0 h, limb_small x 1 h, limb_small x 2 h, limb_small x 3 h]; rfl
/-- the lower 130 bits, and the others -/
theorem low_high (N : Nat) (h : N < 2 ^ 256) : ∃ a b c d : Int, inU a ∧ inU b ∧ inU c ∧ inU d ∧ nums .u64 (limb N) 4 = [.int .u64 a, .int .u64 b, .int .u64 c, .int .u64 d] ∧
    nums .u64 (limb (N % TT)) 4 = [.int .u64 a, .int .u64 b, .int .u64 (c % 4), .int .u64 0] ∧ nums .u64 (limb (N / TT)) 4 = [.int .u64 (c / 4 + d % 4 * 4611686018427387904), .int .u64 (d / 4), .int .u64 0, .int .u64 0] := by
  obtain ⟨n0, n1, n2, n3, b0, b1, b2, b3, e, l0, l1, l2, l3⟩ := limb_parts N h
  refine ⟨n0, n1, n2, n3, by unfold inU; omega, by unfold inU; omega, by unfold inU; omega, by unfold inU; omega, ?_, ?_, ?_⟩
  · rw [nums4, l0, l1, l2, l3]
  · have e1 : N % TT = n0 + 18446744073709551616 * n1 + 340282366920938463463374607431768211456 * (n2 % 4) := by unfold TT; omega
    rw [nums4, e1]
    congr 1
    · congr 1; unfold limb; simp only [Nat.reduceMul, Nat.reducePow]; omega
    · congr 1
      · congr 1; unfold limb; simp only [Nat.reduceMul, Nat.reducePow]; omega
      · congr 1
        · congr 1; unfold limb; simp only [Nat.reduceMul, Nat.reducePow]; omega
        · congr 1; congr 1; unfold limb; simp only [Nat.reduceMul, Nat.reducePow]; omega
  · have e1 : N / TT = n2 / 4 + n3 % 4 * 4611686018427387904 + 18446744073709551616 * (n3 / 4) := by unfold TT; omega
    rw [nums4, e1]
    congr 1
    · congr 1; unfold limb; simp only [Nat.reduceMul, Nat.reducePow]; omega
    · congr 1
      · congr 1; unfold limb; simp only [Nat.reduceMul, Nat.reducePow]; omega
      · congr 1
        · congr 1; unfold limb; simp only [Nat.reduceMul, Nat.reducePow]; omega
        · congr 1; congr 1; unfold limb; simp only [Nat.reduceMul, Nat.reducePow]; omega

attribute [local go_sem] nums_length
set_option maxHeartbeats 8000000 in
theorem fold_any (N : Nat) (hN : N < 2 ^ 256) (w : World) :
    Calls Try.prog 31 #[(.agg (nums .u64 (limb N) 4).toArray)] w fun e w' => e = .returned (.agg (nums .u64 (limb (N % TT + N / TT * 5)) 4).toArray) ∧ Below w.heap.size w w' := by
  have TM := Lib.hid (fun w => times_any (N / TT) 5 (by decide) w)
  rw [nums_small 5 (by decide)] at TM
  have PL := Lib.hid (fun w => plus_any (N % TT) (N / TT * 5) w)
  obtain ⟨a0, a1, a2, a3, h0, h1, h2, h3, e, el, eh⟩ := low_high N hN
  have A3 := and3 a2 h2
  have O6 := or62 a2 a3 h2 h3
  have O7 : bits .or .u64 (a2 / 4) (IntKind.u64.wrap (a3 * 4611686018427387904)) = a2 / 4 + a3 % 4 * 4611686018427387904 := by rw [IntKind.wrap_u64]; exact O6
  rw [el] at PL; rw [eh] at TM; rw [e]
  have EH := Lib.hid eh
  unfold inU at h0 h1 h2 h3
  clear hN e el eh
  obtain ⟨b0, f0⟩ : ∃ z, a2 / 4 + a3 % 4 * 4611686018427387904 = z := ⟨_, rfl⟩
  obtain ⟨b1, f1⟩ : ∃ z, a3 / 4 = z := ⟨_, rfl⟩
  obtain ⟨b2, f2⟩ : ∃ z, a2 % 4 = z := ⟨_, rfl⟩
  rw [f0] at O6 O7 TM; rw [f1] at TM; rw [f2] at PL A3
  clear f0 f2 EH
  generalize N % TT + N / TT * 5 = M at *
  generalize N / TT * 5 = Q_ at *
  go_enter Try.func31, Try.ntmps31
  go_wp2_with (fail)
  obtain ⟨W0, hW⟩ : ∃ W0, W0 = ((((w.alloc (.cells #[.int .u64 a0, .int .u64 a1, .int .u64 a2, .int .u64 a3] 59)).alloc (.cells #[.int .u64 0, .int .u64 0, .int .u64 0, .int .u64 0] 59)).alloc (.cells #[.int .u64 a0, .int .u64 a1, .int .u64 b2, .int .u64 0] 59)).alloc (.cells #[.int .u64 b0, .int .u64 b1, .int .u64 0, .int .u64 0] 59)) := ⟨_, rfl⟩
  have hB0 : Below w.heap.size w W0 := hW ▸ (Below.al (Below.al (Below.al (Below.al (Below.refl _ _)))))
  have HX : Hid (Own w.heap.size ([.int .u64 a0, .int .u64 a1, .int .u64 a2, .int .u64 a3]) W0) := Lib.hid (hW ▸ (show Own w.heap.size ([.int .u64 a0, .int .u64 a1, .int .u64 a2, .int .u64 a3]) (w.alloc (.cells #[.int .u64 a0, .int .u64 a1, .int .u64 a2, .int .u64 a3] 59)) from Own.newAt (by simp)).alloc.alloc.alloc)
  have HR : Hid (Own (w.heap.size + 1) ([.int .u64 0, .int .u64 0, .int .u64 0, .int .u64 0]) W0) := Lib.hid (hW ▸ (show Own (w.heap.size + 1) ([.int .u64 0, .int .u64 0, .int .u64 0, .int .u64 0]) ((w.alloc (.cells #[.int .u64 a0, .int .u64 a1, .int .u64 a2, .int .u64 a3] 59)).alloc (.cells #[.int .u64 0, .int .u64 0, .int .u64 0, .int .u64 0] 59)) from Own.newAt (by simp)).alloc.alloc)
  have HL : Hid (Own ((w.heap.size + 1) + 1) ([.int .u64 a0, .int .u64 a1, .int .u64 b2, .int .u64 0]) W0) := Lib.hid (hW ▸ (show Own ((w.heap.size + 1) + 1) ([.int .u64 a0, .int .u64 a1, .int .u64 b2, .int .u64 0]) (((w.alloc (.cells #[.int .u64 a0, .int .u64 a1, .int .u64 a2, .int .u64 a3] 59)).alloc (.cells #[.int .u64 0, .int .u64 0, .int .u64 0, .int .u64 0] 59)).alloc (.cells #[.int .u64 a0, .int .u64 a1, .int .u64 b2, .int .u64 0] 59)) from Own.newAt (by simp)).alloc)
  have HH : Hid (Own (((w.heap.size + 1) + 1) + 1) ([.int .u64 b0, .int .u64 b1, .int .u64 0, .int .u64 0]) W0) := Lib.hid (hW ▸ (show Own (((w.heap.size + 1) + 1) + 1) ([.int .u64 b0, .int .u64 b1, .int .u64 0, .int .u64 0]) ((((w.alloc (.cells #[.int .u64 a0, .int .u64 a1, .int .u64 a2, .int .u64 a3] 59)).alloc (.cells #[.int .u64 0, .int .u64 0, .int .u64 0, .int .u64 0] 59)).alloc (.cells #[.int .u64 a0, .int .u64 a1, .int .u64 b2, .int .u64 0] 59)).alloc (.cells #[.int .u64 b0, .int .u64 b1, .int .u64 0, .int .u64 0] 59)) from Own.newAt (by simp)))
  rw [← hW]
  clear hW
  obtain ⟨Hi, eHi⟩ : ∃ X, X = (((w.heap.size + 1) + 1) + 1) := ⟨_, rfl⟩
  rw [← eHi] at HH ⊢
  have Hiw : w.heap.size ≤ Hi := by omega
  obtain ⟨Lo, eLo⟩ : ∃ X, X = ((w.heap.size + 1) + 1) := ⟨_, rfl⟩
  rw [← eLo] at HL ⊢
  have Low : w.heap.size ≤ Lo := by omega
  obtain ⟨R, eR⟩ : ∃ X, X = (w.heap.size + 1) := ⟨_, rfl⟩
  rw [← eR] at HR ⊢
  have Rw : w.heap.size ≤ R := by omega
  obtain ⟨X, eX⟩ : ∃ X, X = w.heap.size := ⟨_, rfl⟩
  rw [← eX] at HX ⊢
  have Xw : w.heap.size ≤ X := by omega
  have nXR : X ≠ R := by omega
  have nRX : R ≠ X := by omega
  have nXLo : X ≠ Lo := by omega
  have nLoX : Lo ≠ X := by omega
  have nXHi : X ≠ Hi := by omega
  have nHiX : Hi ≠ X := by omega
  have nRLo : R ≠ Lo := by omega
  have nLoR : Lo ≠ R := by omega
  have nRHi : R ≠ Hi := by omega
  have nHiR : Hi ≠ R := by omega
  have nLoHi : Lo ≠ Hi := by omega
  have nHiLo : Hi ≠ Lo := by omega
  clear eX eR eLo eHi
  clear HX
  refine wp_region_fun 6 (by kernel_rfl) (by kernel_rfl) rfl (fun s b => ⟨#[.agg #[.int .u64 a0, .int .u64 a1, .int .u64 a2, .int .u64 a3], .pointer (some ⟨X, 0, none⟩), .pointer (some ⟨R, 0, none⟩), .pointer (some ⟨Lo, 0, none⟩), .pointer (some ⟨Hi, 0, none⟩), .pointer (some ⟨X, 0, none⟩), .int .u64 a0, .pointer (some ⟨X, 1, none⟩), .int .u64 a1, .pointer (some ⟨X, 2, none⟩), .int .u64 a2, .int .u64 b2, .agg #[.int .u64 a0, .int .u64 a1, .int .u64 b2, .int .u64 0], .pointer (some ⟨X, 2, none⟩), .int .u64 a2, .int .u64 (a2 / 4), .pointer (some ⟨X, 3, none⟩), .int .u64 a3, .int .u64 (IntKind.u64.wrap (a3 * 4611686018427387904)), .int .u64 b0, .pointer (some ⟨X, 3, none⟩), .int .u64 a3, .int .u64 b1, .agg #[.int .u64 b0, .int .u64 b1, .int .u64 0, .int .u64 0], s 24, s 25, s 26, s 27, s 28], []⟩) (fun d s b w => (d 5 = false → Below W0.heap.size W0 w) ∧ (d 0 = true → s 24 = .agg #[.int .u64 a0, .int .u64 a1, .int .u64 b2, .int .u64 0]) ∧ (d 1 = true → s 25 = .agg #[.int .u64 b0, .int .u64 b1, .int .u64 0, .int .u64 0]) ∧ (d 2 = true → s 26 = .agg #[.int .u64 ((5 : Nat) : Int), .int .u64 0, .int .u64 0, .int .u64 0]) ∧ (d 3 = true → s 27 = (.agg (nums .u64 (limb Q_) 4).toArray)) ∧ (d 4 = true → s 28 = (.agg (nums .u64 (limb M) 4).toArray)) ∧ (d 5 = true → ∀ j, j < 5 → d j = true) ∧ (d 5 = true → ∃ w2, Below W0.heap.size W0 w2 ∧ w = w2.setCells R 0 (nums .u64 (limb M) 4))) rfl ?h0y1 (?sty1 : StepsF _ _ _ _ 6 _ _ [0, 1, 2, 3, 4, 5]) ?dny1
  case h0y1 => exact ⟨fun _ => Below.drew (Below.refl _ _), (fun h => nomatch h), (fun h => nomatch h), (fun h => nomatch h), (fun h => nomatch h), (fun h => nomatch h), (fun h => nomatch h), (fun h => nomatch h)⟩
  case sty1 =>
    refine StepsF.cons (o := _) rfl (ws := []) (by kernel_rfl) (by decide) (fun d s b w hF hd hw K_ hK => ?_) ?_
    · have hk : d 5 = false := by cases e : d 5 with | false => rfl | true => exact absurd ((p6_ hF.out) e 0 (by decide)) (by simp [hd])
      have hB : Below W0.heap.size W0 w := (p0_ hF.out) hk
      dsimp only
      have oq := HL.out.later hB
      have q0 := oq.at 0 _ rfl
      have q1 := oq.at 1 _ rfl
      have q2 := oq.at 2 _ rfl
      have q3 := oq.at 3 _ rfl
      go_simp
      exact hK.out (ups s 24 (.agg #[.int .u64 a0, .int .u64 a1, .int .u64 b2, .int .u64 0])) b _ ⟨(fun _ => hB), (fun _ => rfl), (p2_ hF.out), (p3_ hF.out), (p4_ hF.out), (p5_ hF.out), (fun h => absurd ((p6_ hF.out) h 0 (by decide)) (by simp [hd])), (fun h => absurd ((p6_ hF.out) h 0 (by decide)) (by simp [hd]))⟩
    refine StepsF.cons (o := _) rfl (ws := []) (by kernel_rfl) (by decide) (fun d s b w hF hd hw K_ hK => ?_) ?_
    · have hk : d 5 = false := by cases e : d 5 with | false => rfl | true => exact absurd ((p6_ hF.out) e 1 (by decide)) (by simp [hd])
      have hB : Below W0.heap.size W0 w := (p0_ hF.out) hk
      dsimp only
      have oq := HH.out.later hB
      have q0 := oq.at 0 _ rfl
      have q1 := oq.at 1 _ rfl
      have q2 := oq.at 2 _ rfl
      have q3 := oq.at 3 _ rfl
      go_simp
      exact hK.out (ups s 25 (.agg #[.int .u64 b0, .int .u64 b1, .int .u64 0, .int .u64 0])) b _ ⟨(fun _ => hB), (p1_ hF.out), (fun _ => rfl), (p3_ hF.out), (p4_ hF.out), (p5_ hF.out), (fun h => absurd ((p6_ hF.out) h 1 (by decide)) (by simp [hd])), (fun h => absurd ((p6_ hF.out) h 1 (by decide)) (by simp [hd]))⟩
    refine StepsF.cons (o := _) rfl (ws := []) (by kernel_rfl) (by decide) (fun d s b w hF hd hw K_ hK => ?_) ?_
    · have hk : d 5 = false := by cases e : d 5 with | false => rfl | true => exact absurd ((p6_ hF.out) e 2 (by decide)) (by simp [hd])
      have hB : Below W0.heap.size W0 w := (p0_ hF.out) hk
      dsimp only
      go_simp
      exact hK.out (ups s 26 (.agg #[.int .u64 ((5 : Nat) : Int), .int .u64 0, .int .u64 0, .int .u64 0])) b _ ⟨(fun _ => hB), (p1_ hF.out), (p2_ hF.out), (fun _ => rfl), (p4_ hF.out), (p5_ hF.out), (fun h => absurd ((p6_ hF.out) h 2 (by decide)) (by simp [hd])), (fun h => absurd ((p6_ hF.out) h 2 (by decide)) (by simp [hd]))⟩
    refine StepsF.cons (o := _) rfl (ws := [1, 2]) (by kernel_rfl) (by decide) (fun d s b w hF hd hw K_ hK => ?_) ?_
    · have hk : d 5 = false := by cases e : d 5 with | false => rfl | true => exact absurd ((p6_ hF.out) e 3 (by decide)) (by simp [hd])
      have hB : Below W0.heap.size W0 w := (p0_ hF.out) hk
      have e1 : s 25 = .agg #[.int .u64 b0, .int .u64 b1, .int .u64 0, .int .u64 0] := (p2_ hF.out) (hw 1 (by decide))
      have e2 : s 26 = .agg #[.int .u64 ((5 : Nat) : Int), .int .u64 0, .int .u64 0, .int .u64 0] := (p3_ hF.out) (hw 2 (by decide))
      dsimp only
      go_simp
      go_at_call 27
      refine (TM.out _).mono ?_
      rintro e w1 ⟨rfl, hb⟩
      exact hK.out (ups (ups (ups s 25 (.agg #[.int .u64 b0, .int .u64 b1, .int .u64 0, .int .u64 0])) 26 (.agg #[.int .u64 ((5 : Nat) : Int), .int .u64 0, .int .u64 0, .int .u64 0])) 27 ((.agg (nums .u64 (limb Q_) 4).toArray))) b _ ⟨(fun _ => (Below.go hB hb)), (p1_ hF.out), (fun _ => rfl), (fun _ => rfl), (fun _ => rfl), (p5_ hF.out), (fun h => absurd ((p6_ hF.out) h 3 (by decide)) (by simp [hd])), (fun h => absurd ((p6_ hF.out) h 3 (by decide)) (by simp [hd]))⟩
    refine StepsF.cons (o := _) rfl (ws := [0, 3, 3]) (by kernel_rfl) (by decide) (fun d s b w hF hd hw K_ hK => ?_) ?_
    · have hk : d 5 = false := by cases e : d 5 with | false => rfl | true => exact absurd ((p6_ hF.out) e 4 (by decide)) (by simp [hd])
      have hB : Below W0.heap.size W0 w := (p0_ hF.out) hk
      have e0 : s 24 = .agg #[.int .u64 a0, .int .u64 a1, .int .u64 b2, .int .u64 0] := (p1_ hF.out) (hw 0 (by decide))
      have e3 : s 27 = (.agg (nums .u64 (limb Q_) 4).toArray) := (p4_ hF.out) (hw 3 (by decide))
      dsimp only
      go_simp
      go_at_call 28
      refine (PL.out _).mono ?_
      rintro e w1 ⟨rfl, hb⟩
      exact hK.out (ups (ups (ups s 24 (.agg #[.int .u64 a0, .int .u64 a1, .int .u64 b2, .int .u64 0])) 27 ((.agg (nums .u64 (limb Q_) 4).toArray))) 28 ((.agg (nums .u64 (limb M) 4).toArray))) b _ ⟨(fun _ => (Below.go hB hb)), (fun _ => rfl), (p2_ hF.out), (p3_ hF.out), (fun _ => rfl), (fun _ => rfl), (fun h => absurd ((p6_ hF.out) h 4 (by decide)) (by simp [hd])), (fun h => absurd ((p6_ hF.out) h 4 (by decide)) (by simp [hd]))⟩
    refine StepsF.cons (o := _) rfl (ws := [4, 4, 0, 1, 2, 3, 4]) (by kernel_rfl) (by decide) (fun d s b w hF hd hw K_ hK => ?_) ?_
    · have hB : Below W0.heap.size W0 w := (p0_ hF.out) hd
      have e0 : s 24 = .agg #[.int .u64 a0, .int .u64 a1, .int .u64 b2, .int .u64 0] := (p1_ hF.out) (hw 0 (by decide))
      have e1 : s 25 = .agg #[.int .u64 b0, .int .u64 b1, .int .u64 0, .int .u64 0] := (p2_ hF.out) (hw 1 (by decide))
      have e2 : s 26 = .agg #[.int .u64 ((5 : Nat) : Int), .int .u64 0, .int .u64 0, .int .u64 0] := (p3_ hF.out) (hw 2 (by decide))
      have e3 : s 27 = (.agg (nums .u64 (limb Q_) 4).toArray) := (p4_ hF.out) (hw 3 (by decide))
      have e4 : s 28 = (.agg (nums .u64 (limb M) 4).toArray) := (p5_ hF.out) (hw 4 (by decide))
      dsimp only
      have oz := HR.out.later hB
      have hst := store_nums (P := Try.prog) (n := 4) .u64 (limb M) oz rfl
      have oX := HR.out.later hB
      clear oX
      go_simp
      exact hK.out (ups (ups (ups (ups (ups s 24 (.agg #[.int .u64 a0, .int .u64 a1, .int .u64 b2, .int .u64 0])) 25 (.agg #[.int .u64 b0, .int .u64 b1, .int .u64 0, .int .u64 0])) 26 (.agg #[.int .u64 ((5 : Nat) : Int), .int .u64 0, .int .u64 0, .int .u64 0])) 27 ((.agg (nums .u64 (limb Q_) 4).toArray))) 28 ((.agg (nums .u64 (limb M) 4).toArray))) b _ ⟨(fun h => nomatch h), (fun _ => rfl), (fun _ => rfl), (fun _ => rfl), (fun _ => rfl), (fun _ => rfl), (fun _ j hj => by have hj2 := hw j (by simp; omega); simp [upd, hj2]), (fun _ => ⟨w, hB, rfl⟩)⟩
    exact StepsF.nil
  intro d s b y1 hF hall
  replace hF := Lib.hid hF
  obtain ⟨y1, hB, rfl⟩ := (q7_ hF.out) (hall 5 (by decide))
  try dsimp only
  have e0 : s 24 = .agg #[.int .u64 a0, .int .u64 a1, .int .u64 b2, .int .u64 0] := (p1_ hF.out) (hall 0 (by decide))
  have e1 : s 25 = .agg #[.int .u64 b0, .int .u64 b1, .int .u64 0, .int .u64 0] := (p2_ hF.out) (hall 1 (by decide))
  have e2 : s 26 = .agg #[.int .u64 ((5 : Nat) : Int), .int .u64 0, .int .u64 0, .int .u64 0] := (p3_ hF.out) (hall 2 (by decide))
  have e3 : s 27 = (.agg (nums .u64 (limb Q_) 4).toArray) := (p4_ hF.out) (hall 3 (by decide))
  have e4 : s 28 = (.agg (nums .u64 (limb M) 4).toArray) := (p5_ hF.out) (hall 4 (by decide))
  rw [e0, e1, e2, e3, e4]
  clear hall hF e0 e1 e2 e3 e4
  clear d s b
  have HR1 := Lib.hid (Own.store (vs := nums .u64 (limb M) 4) (HR.out.later hB) rfl)
  have hB1 := Below.setCells (Below.go hB0 hB) Rw (nums .u64 (limb M) 4) 0
  go_wp2_with (fail)
  have hL := run_loadVar_mid (P := Try.prog) _ R 0 59 (nums .u64 (limb M) 4) _ HR1.out.cell Try.underlying59 rfl (by kernel_rfl)
  exact bodyPost_ret (v := .agg (nums .u64 (limb M) 4).toArray) (res_cell Try.results31 rfl hL) rfl ⟨rfl, hB1⟩

theorem PP_lt : PP = TT - 5 := rfl
/-- one fold: a number less than 2^130 + 2^128, with the same remainder -/
theorem fold_arith (N : Nat) (h : N < 2 ^ 255) : N % TT + N / TT * 5 < 1701411834604692317316873037158841057280 ∧ (N % TT + N / TT * 5) % PP = N % PP := by
  have e := Nat.div_add_mod N TT
  constructor
  · unfold TT at *; omega
  · have : N = N % TT + N / TT * 5 + N / TT * PP := by unfold PP; unfold TT at *; omega
    conv => rhs; rw [this, Nat.add_mul_mod_self_right]
theorem over_arith (F : Nat) (h : F < 1701411834604692317316873037158841057280) : limb (F + 5) 2 / 4 = (((F + 5) / TT : Nat) : Int) ∧ (F + 5) / TT ≤ 1 ∧ (F + 5 * ((F + 5) / TT)) % TT = F % PP := by
  refine ⟨?_, ?_, ?_⟩
  · unfold limb TT; simp only [Nat.reduceMul, Nat.reducePow]; omega
  · unfold TT; omega
  · have : (F + 5) / TT = 0 ∨ (F + 5) / TT = 1 := by unfold TT; omega
    rcases this with e | e
    · rw [e]; unfold TT at e; unfold TT PP; omega
    · rw [e]; unfold TT at e; unfold TT PP; omega
/-- the bits above 2^130 are struck -/
theorem strike (G : Nat) (h : G < 2722258935367507707706996859454145691648) : nums .u64 (at1 (limb G) 2 (limb G 2 % 4)) 4 = nums .u64 (limb (G % TT)) 4 := nums_congr _ fun i hi => by
  have hi' : i = 0 ∨ i = 1 ∨ i = 2 ∨ i = 3 := by omega
  unfold at1 limb TT
  rcases hi' with rfl | rfl | rfl | rfl <;> simp only [Nat.reduceMul, Nat.reducePow, Nat.reduceEqDiff, if_false, if_true, reduceIte] <;> omega

set_option maxHeartbeats 8000000 in
theorem rest_any (N : Nat) (hN : N < 2 ^ 255) (w : World) :
    Calls Try.prog 26 #[(.agg (nums .u64 (limb N) 4).toArray)] w fun e w' => e = .returned (.agg (nums .u64 (limb (N % PP)) 4).toArray) ∧ Below w.heap.size w w' := by
  have FO := Lib.hid (fun w => fold_any N (by omega) w)
  obtain ⟨f1, f2⟩ := fold_arith N hN
  obtain ⟨F, eF⟩ : ∃ F, N % TT + N / TT * 5 = F := ⟨_, rfl⟩
  rw [eF] at f1 f2 FO
  obtain ⟨g1, g2, g3⟩ := over_arith F f1
  have P5 := Lib.hid (fun w => plus_any F 5 w)
  rw [nums_small 5 (by decide)] at P5
  obtain ⟨c, ec⟩ : ∃ c, (F + 5) / TT = c := ⟨_, rfl⟩
  rw [ec] at g1 g2 g3
  have PC := Lib.hid (fun w => plus_any F (5 * c) w)
  rw [nums_small (5 * c) (by omega)] at PC
  have IX : ∀ w, (Instr.index 59 (.agg (nums .u64 (limb (F + 5)) 4).toArray) (.int .i64 2)).run Try.prog w = .ok (.int .u64 (limb (F + 5) 2)) w := index_num (limb (F + 5)) 2 (by decide)
  have S1 := strike (F + 5 * c) (by omega)
  rw [g3, f2] at S1
  have IG := in_limb (F + 5 * c) 2
  have A3 := and3 _ IG
  generalize F + 5 * c = G at *
  obtain ⟨x, ex⟩ : ∃ x, limb (F + 5) 2 = x := ⟨_, rfl⟩
  rw [ex] at IX g1
  have e5 : ((5 * c : Nat) : Int) = 5 * (c : Int) := by omega
  rw [e5] at PC
  have w5 : IntKind.u64.wrap (5 * (c : Int)) = 5 * (c : Int) := by rw [IntKind.wrap_u64]; omega
  generalize F + 5 = F5 at *
  generalize N % PP = M at *
  have S2 := Lib.hid S1
  clear eF f1 f2 g2 g3 ec S1 hN e5 IG ex
  go_enter Try.func26, Try.ntmps26
  go_upto_region 1 with fail
  obtain ⟨W0, hW⟩ : ∃ W0, W0 = ((w.alloc (.cells (nums .u64 (limb N) 4).toArray 59)).alloc (.cells #[.int .u64 0, .int .u64 0, .int .u64 0, .int .u64 0] 59)) := ⟨_, rfl⟩
  have hB0 : Below w.heap.size w W0 := hW ▸ (Below.al (Below.al (Below.refl _ _)))
  have HX : Hid (Own w.heap.size (nums .u64 (limb N) 4) W0) := Lib.hid (hW ▸ (show Own w.heap.size (nums .u64 (limb N) 4) (w.alloc (.cells (nums .u64 (limb N) 4).toArray 59)) from Own.newAt (by simp)).alloc)
  have HR : Hid (Own (w.heap.size + 1) (nums .u64 (fun _ => 0) 4) W0) := Lib.hid (hW ▸ (show Own (w.heap.size + 1) (nums .u64 (fun _ => 0) 4) ((w.alloc (.cells (nums .u64 (limb N) 4).toArray 59)).alloc (.cells #[.int .u64 0, .int .u64 0, .int .u64 0, .int .u64 0] 59)) from Own.newAt (by simp)))
  rw [← hW]
  clear hW
  obtain ⟨R, eR⟩ : ∃ X, X = (w.heap.size + 1) := ⟨_, rfl⟩
  rw [← eR] at HR ⊢
  have Rw : w.heap.size ≤ R := by omega
  obtain ⟨X, eX⟩ : ∃ X, X = w.heap.size := ⟨_, rfl⟩
  rw [← eX] at HX ⊢
  have Xw : w.heap.size ≤ X := by omega
  have nXR : X ≠ R := by omega
  have nRX : R ≠ X := by omega
  clear eX eR
  refine wp_region_lit ?_
  refine wpList_load_mid rfl 59 _ rfl X 0 rfl (nums .u64 (limb N) 4) _ HX.out.cell Try.underlying59 rfl (by kernel_rfl) ?_
  go_wp2_with (fail)
  go_at_call 31
  refine (FO.out _).mono ?_
  rintro e w1 ⟨rfl, hb⟩
  have HXk := Lib.hid (HX.out.later hb)
  have HRk := Lib.hid (HR.out.later hb)
  clear HX HR
  have HX := HXk
  clear HXk
  have HR := HRk
  clear HRk
  have hBn := Below.go hB0 hb
  clear hB0 hb
  have hB0 := hBn
  clear hBn
  have hst := store_nums (P := Try.prog) (n := 4) .u64 (limb F) HX.out rfl
  go_upto_region 2 with fail
  have HXn : Hid (Own X (nums .u64 (limb F) 4) (w1.setCells X 0 (nums .u64 (limb F) 4))) := Lib.hid (Own.store HX.out rfl)
  have HRn : Hid (Own R (nums .u64 (fun _ => 0) 4) (w1.setCells X 0 (nums .u64 (limb F) 4))) := Lib.hid (Own.far (o := 0) (vs := (nums .u64 (limb F) 4)) HR.out nRX)
  have hB0n : Below w.heap.size w (w1.setCells X 0 (nums .u64 (limb F) 4)) := Below.setCells hB0 Xw (nums .u64 (limb F) 4) 0
  clear HX HR hB0
  generalize (w1.setCells X 0 (nums .u64 (limb F) 4)) = w2 at *
  have HX := HXn
  clear HXn
  have HR := HRn
  clear HRn
  have hB0 := hB0n
  clear hB0n
  clear hst
  refine wp_region_lit ?_
  refine wpList_load_mid rfl 59 _ rfl X 0 rfl (nums .u64 (limb F) 4) _ HX.out.cell Try.underlying59 rfl (by kernel_rfl) ?_
  go_wp2_with (fail)
  go_at_call 28
  refine (P5.out _).mono ?_
  rintro e w3 ⟨rfl, hb⟩
  have HXk := Lib.hid (HX.out.later hb)
  have HRk := Lib.hid (HR.out.later hb)
  clear HX HR
  have HX := HXk
  clear HXk
  have HR := HRk
  clear HRk
  have hBn := Below.go hB0 hb
  clear hB0 hb
  have hB0 := hBn
  clear hBn
  go_upto_region 3 with fail
  refine wp_region_lit ?_
  refine wpList_load_mid rfl 59 _ rfl X 0 rfl (nums .u64 (limb F) 4) _ HX.out.cell Try.underlying59 rfl (by kernel_rfl) ?_
  go_wp2_with (fail)
  go_at_call 28
  refine (PC.out _).mono ?_
  rintro e w4 ⟨rfl, hb⟩
  have HXk := Lib.hid (HX.out.later hb)
  have HRk := Lib.hid (HR.out.later hb)
  clear HX HR
  have HX := HXk
  clear HXk
  have HR := HRk
  clear HRk
  have hBn := Below.go hB0 hb
  clear hB0 hb
  have hB0 := hBn
  clear hBn
  have hst := store_nums (P := Try.prog) (n := 4) .u64 (limb G) HX.out rfl
  go_upto_region 4 with fail
  have HXn : Hid (Own X (nums .u64 (limb G) 4) (w4.setCells X 0 (nums .u64 (limb G) 4))) := Lib.hid (Own.store HX.out rfl)
  have HRn : Hid (Own R (nums .u64 (fun _ => 0) 4) (w4.setCells X 0 (nums .u64 (limb G) 4))) := Lib.hid (Own.far (o := 0) (vs := (nums .u64 (limb G) 4)) HR.out nRX)
  have hB0n : Below w.heap.size w (w4.setCells X 0 (nums .u64 (limb G) 4)) := Below.setCells hB0 Xw (nums .u64 (limb G) 4) 0
  clear HX HR hB0
  generalize (w4.setCells X 0 (nums .u64 (limb G) 4)) = w5 at *
  have HX := HXn
  clear HXn
  have HR := HRn
  clear HRn
  have hB0 := hB0n
  clear hB0n
  clear hst
  have x2 := HX.out.at 2 _ (nums_at _ _ (by decide))
  have xf := HX.out.ok 2 (by rw [nums_length]; decide)
  have Xl := HX.out.lt
  obtain ⟨y, ey⟩ : ∃ y, limb G 2 % 4 = y := ⟨_, rfl⟩
  rw [ey] at S2 A3
  have S3 := Lib.hid (S2.out ▸ own_set (i := 2) (v := y) HX.out (by decide))
  have HRn := Lib.hid (Own.far (o := 2) (vs := [.int .u64 y]) HR.out nRX)
  have HB := Lib.hid (Below.setCells hB0 Xw [.int .u64 y] 2)
  clear hB0 HX HR S2
  go_upto_region 5 with fail
  change Code.wp _ _ _ _ (w5.setCells X 2 [.int .u64 y])
  generalize w5.setCells X 2 [.int .u64 y] = wr at *
  go_upto_region 5 with fail
  have hB0 := HB.out
  refine wp_region_lit ?_
  refine wpList_load_mid rfl 59 _ rfl X 0 rfl (nums .u64 (limb M) 4) _ S3.out.cell Try.underlying59 rfl (by kernel_rfl) ?_
  refine wpList_store_mid rfl 59 _ _ rfl R 0 (nums .u64 (limb M) 4).toArray rfl rfl HRn.out.free (by kernel_rfl) (nums_all _ _ _) ?_
  change wpList _ _ _ [] _ (wr.setCells R 0 (nums .u64 (limb M) 4))
  have HRnn : Hid (Own R (nums .u64 (limb M) 4) (wr.setCells R 0 (nums .u64 (limb M) 4))) := Lib.hid (Own.store HRn.out (by simp [nums_length]))
  have S3n : Hid (Own X (nums .u64 (limb M) 4) (wr.setCells R 0 (nums .u64 (limb M) 4))) := Lib.hid (Own.far (o := 0) (vs := (nums .u64 (limb M) 4)) S3.out nXR)
  have hB0n : Below w.heap.size w (wr.setCells R 0 (nums .u64 (limb M) 4)) := Below.setCells hB0 Rw (nums .u64 (limb M) 4) 0
  clear HRn S3 hB0
  generalize (wr.setCells R 0 (nums .u64 (limb M) 4)) = wz at *
  have HRn := HRnn
  clear HRnn
  have S3 := S3n
  clear S3n
  have hB0 := hB0n
  clear hB0n
  go_wp2_with (fail)
  have hL := run_loadVar_mid (P := Try.prog) _ R 0 59 (nums .u64 (limb M) 4) _ HRn.out.cell Try.underlying59 rfl (by kernel_rfl)
  exact bodyPost_ret (v := .agg (nums .u64 (limb M) 4).toArray) (res_cell Try.results26 rfl hL) rfl ⟨rfl, hB0⟩
end Go.Proofs.Ytbofihejegbfhaa
