/- poly.plus. -/
import Derived.Test.YtbofihejegbfhaaNB
namespace Go.Proofs.Ytbofihejegbfhaa
set_option linter.unusedVariables false
set_option maxRecDepth 2000
set_option linter.unusedSimpArgs false
open Go.RowKit
/-- the i-th 64 bits of N -/
def limb (N i : Nat) : Int := ((N / 2 ^ (64 * i) % 18446744073709551616 : Nat) : Int)
theorem in_limb (N i : Nat) : inU (limb N i) := by unfold inU limb; omega
/-- what is carried to the k-th limb of a sum -/
def car (A B k : Nat) : Int := (((A % 2 ^ (64 * k) + B % 2 ^ (64 * k)) / 2 ^ (64 * k) : Nat) : Int)
theorem pw64 (k : Nat) : 2 ^ (64 * (k + 1)) = 2 ^ (64 * k) * 18446744073709551616 := by rw [Nat.mul_add, Nat.pow_add]
theorem car_bd (A B k : Nat) : 0 ≤ car A B k ∧ car A B k ≤ 1 := by
  unfold car
  have hM : 0 < 2 ^ (64 * k) := Nat.two_pow_pos _
  have h1 := Nat.mod_lt A hM
  have h2 := Nat.mod_lt B hM
  generalize 2 ^ (64 * k) = M at *
  have : (A % M + B % M) / M < 2 := Nat.div_lt_of_lt_mul (by omega)
  exact ⟨Int.natCast_nonneg _, Int.ofNat_le.2 (Nat.le_of_lt_succ this)⟩
theorem car0 (A B : Nat) : car A B 0 = 0 := by simp [car, Nat.mod_one]
theorem nat_add_div (A B M : Nat) (hM : 0 < M) : (A + B) / M = A / M + B / M + (A % M + B % M) / M := by
  have h : A + B = (A % M + B % M) + M * (A / M + B / M) := by
    have := Nat.div_add_mod A M; have := Nat.div_add_mod B M; rw [Nat.mul_add]; omega
  have e : (A + B) / M = (A % M + B % M + M * (A / M + B / M)) / M := by rw [← h]
  rw [e, Nat.add_mul_div_left _ _ hM, Nat.add_comm]
theorem nat_mod_mul (A M D : Nat) : A % (M * D) = A % M + M * (A / M % D) := Nat.mod_mul
theorem plus_low (A B k : Nat) : l64 (limb A k + limb B k + car A B k) = limb (A + B) k := by
  unfold l64 limb car
  have hM : 0 < 2 ^ (64 * k) := Nat.two_pow_pos _
  generalize 2 ^ (64 * k) = M at *
  rw [nat_add_div A B M hM]
  omega
theorem plus_high (A B k : Nat) : h64 (limb A k + limb B k + car A B k) = car A B (k + 1) := by
  unfold h64 limb car
  have hM : 0 < 2 ^ (64 * k) := Nat.two_pow_pos _
  rw [pw64]
  generalize 2 ^ (64 * k) = M at *
  rw [nat_mod_mul A M, nat_mod_mul B M, ← Nat.div_div_eq_div_mul, show A % M + M * (A / M % 18446744073709551616) + (B % M + M * (B / M % 18446744073709551616)) = A % M + B % M + M * (A / M % 18446744073709551616 + B / M % 18446744073709551616) by rw [Nat.mul_add]; omega, Nat.add_mul_div_left _ _ hM]
  omega
/-- the first k limbs of F's, the others G's -/
def mixL (F G : Nat → Int) (k : Nat) : Nat → Int := fun j => if j < k then F j else G j
theorem mixL_at (F G : Nat → Int) (k : Nat) : mixL F G k k = G k := if_neg (Nat.lt_irrefl _)
theorem mixL_step (q : IntKind) (F G : Nat → Int) (k n : Nat) (v : Int) (hv : v = F k) : nums q (at1 (mixL F G k) k v) n = nums q (mixL F G (k + 1)) n := nums_congr _ fun j _ => by
  unfold at1 mixL
  by_cases h : j = k
  · rw [if_pos h, if_pos (by omega), h]; exact hv
  · rw [if_neg h]
    by_cases h2 : j < k
    · rw [if_pos h2, if_pos (by omega)]
    · rw [if_neg h2, if_neg (by omega)]
theorem mixL_all (q : IntKind) (F G : Nat → Int) (n : Nat) : nums q (mixL F G n) n = nums q F n := nums_congr _ fun _ hj => if_pos hj

set_option maxHeartbeats 4000000 in
theorem plus_any (A B : Nat) (w : World) :
    Calls Try.prog 28 #[(.agg (nums .u64 (limb A) 4).toArray), (.agg (nums .u64 (limb B) 4).toArray)] w fun e w' => e = .returned (.agg (nums .u64 (limb (A + B)) 4).toArray) ∧ Below w.heap.size w w' := by
  go_enter Try.func28, Try.ntmps28
  go_upto_region 1 with fail
  obtain ⟨W0, hW⟩ : ∃ W0, W0 = (((w.alloc (.cells (nums .u64 (limb A) 4).toArray 59)).alloc (.cells (nums .u64 (limb B) 4).toArray 59)).alloc (.cells #[.int .u64 0, .int .u64 0, .int .u64 0, .int .u64 0] 59)) := ⟨_, rfl⟩
  have hB0 : Below w.heap.size w W0 := hW ▸ (Below.al (Below.al (Below.al (Below.refl _ _))))
  have HX : Hid (Own w.heap.size (nums .u64 (limb A) 4) W0) := Lib.hid (hW ▸ (show Own w.heap.size (nums .u64 (limb A) 4) (w.alloc (.cells (nums .u64 (limb A) 4).toArray 59)) from Own.newAt (by simp)).alloc.alloc)
  have HY : Hid (Own (w.heap.size + 1) (nums .u64 (limb B) 4) W0) := Lib.hid (hW ▸ (show Own (w.heap.size + 1) (nums .u64 (limb B) 4) ((w.alloc (.cells (nums .u64 (limb A) 4).toArray 59)).alloc (.cells (nums .u64 (limb B) 4).toArray 59)) from Own.newAt (by simp)).alloc)
  have HR : Hid (Own ((w.heap.size + 1) + 1) (nums .u64 (fun _ => 0) 4) W0) := Lib.hid (hW ▸ (show Own ((w.heap.size + 1) + 1) (nums .u64 (fun _ => 0) 4) (((w.alloc (.cells (nums .u64 (limb A) 4).toArray 59)).alloc (.cells (nums .u64 (limb B) 4).toArray 59)).alloc (.cells #[.int .u64 0, .int .u64 0, .int .u64 0, .int .u64 0] 59)) from Own.newAt (by simp)))
  rw [← hW]
  clear hW
  obtain ⟨R, eR⟩ : ∃ X, X = ((w.heap.size + 1) + 1) := ⟨_, rfl⟩
  rw [← eR] at HR ⊢
  have Rw : w.heap.size ≤ R := by omega
  obtain ⟨Y, eY⟩ : ∃ X, X = (w.heap.size + 1) := ⟨_, rfl⟩
  rw [← eY] at HY ⊢
  have Yw : w.heap.size ≤ Y := by omega
  obtain ⟨X, eX⟩ : ∃ X, X = w.heap.size := ⟨_, rfl⟩
  rw [← eX] at HX ⊢
  have Xw : w.heap.size ≤ X := by omega
  have nXY : X ≠ Y := by omega
  have nYX : Y ≠ X := by omega
  have nXR : X ≠ R := by omega
  have nRX : R ≠ X := by omega
  have nYR : Y ≠ R := by omega
  have nRY : R ≠ Y := by omega
  clear eX eY eR
  go_wp2_with (fail)
  go_loopw [5, 7] (fun cv iv wr => ∃ (k : Nat), k ≤ 4 ∧ cv = .int .u64 (car A B k) ∧ iv = .int .i64 k ∧ Hid (Below w.heap.size w wr) ∧ Hid (Own X (nums .u64 (mixL (limb (A + B)) (limb A) k) 4) wr) ∧ Hid (Own Y (nums .u64 (limb B) 4) wr) ∧ Hid (Own R (nums .u64 (fun _ => 0) 4) wr)) (fun _ iv _ => (4 - (intOf iv).toNat))
  case atStart => exact ⟨0, by omega, by rw [car0], rfl, Lib.hid hB0, HX, HY, HR⟩
  case round =>
    clear HX HY HR hB0
    obtain ⟨k, hk, rfl, rfl, HB, HX, HY, HR⟩ := hrel
    by_cases hlt : k < 4
    · have x0 := HX.out.at k _ (nums_at _ _ hlt)
      have xf := HX.out.ok k (by rw [nums_length]; exact hlt)
      have y0 := HY.out.at k _ (nums_at _ _ hlt)
      rw [mixL_at] at x0
      have Xl := HX.out.lt
      have ad := padd (limb A k) (limb B k) (car A B k) (in_limb _ _) (in_limb _ _) (car_bd _ _ _).1 (car_bd _ _ _).2
      rw [plus_low, plus_high] at ad
      have ME := Lib.hid (mixL_step .u64 (limb (A + B)) (limb A) k 4 _ rfl)
      obtain ⟨x, ex⟩ : ∃ x, limb A k = x := ⟨_, rfl⟩
      obtain ⟨y, ey⟩ : ∃ y, limb B k = y := ⟨_, rfl⟩
      obtain ⟨z, ez⟩ : ∃ z, limb (A + B) k = z := ⟨_, rfl⟩
      obtain ⟨ca, ec⟩ : ∃ ca, car A B k = ca := ⟨_, rfl⟩
      obtain ⟨cb, ed⟩ : ∃ cb, car A B (k + 1) = cb := ⟨_, rfl⟩
      rw [ex] at x0 ad; rw [ey] at y0 ad; rw [ez] at ad ME; rw [ec] at ad ⊢; rw [ed] at ad
      have k0 : (0 : Int) ≤ (k : Int) := by omega
      have k1 : (k : Int) < 4 := by omega
      have k63 : (k : Int) + 1 ≤ 9223372036854775807 := by omega
      have ED := Lib.hid ed; have eX := Lib.hid ex; have eY := Lib.hid ey
      clear ex ey ez ec ed hk x0 xf y0 Xl
      obtain ⟨E, eE⟩ : ∃ E, E = w := ⟨_, rfl⟩
      subst eE
      go_wp2_with (fail)
      refine wp_region_fun 15 (by kernel_rfl) (by kernel_rfl) rfl (fun s b => ⟨#[(.agg (nums .u64 (limb A) 4).toArray), (.agg (nums .u64 (limb B) 4).toArray), .pointer (some ⟨X, 0, none⟩), .pointer (some ⟨Y, 0, none⟩), .pointer (some ⟨R, 0, none⟩), s 5, .int .i64 k, .int .i64 k, .bool true, .int .i64 k, s 10, s 11, s 12, s 13, s 14, s 15, s 16, s 17, s 18, s 19, s 20, s 21, s 22, u23, undef], []⟩) (fun d s b w => (Below E.heap.size E w) ∧ (d 0 = true → s 11 = .int .i64 (k : Int)) ∧ (d 1 = true → s 12 = .int .i64 (k : Int)) ∧ (d 2 = true → s 13 = .pointer (some ⟨X, k, none⟩)) ∧ (d 3 = true → s 14 = .int .u64 x) ∧ (d 4 = true → s 15 = .int .i64 (k : Int)) ∧ (d 5 = true → s 16 = .pointer (some ⟨Y, k, none⟩)) ∧ (d 6 = true → s 17 = .int .u64 y) ∧ (d 7 = true → s 18 = .int .u64 ca) ∧ (d 8 = true → s 19 = .tuple #[.int .u64 z, .int .u64 cb]) ∧ (d 9 = true → s 10 = .tuple #[.int .u64 z, .int .u64 cb]) ∧ (d 10 = true → s 20 = .int .u64 z) ∧ (d 11 = true → s 21 = .int .u64 cb) ∧ (d 12 = true → s 22 = .pointer (some ⟨X, k, none⟩)) ∧ (d 13 = false → Own X (nums .u64 (mixL (limb (A + B)) (limb A) k) 4) w) ∧ (d 13 = true → Own X (nums .u64 (mixL (limb (A + B)) (limb A) (k + 1)) 4) w) ∧ (d 14 = true → s 5 = .int .u64 cb) ∧ (d 14 = false → s 5 = .int .u64 ca) ∧ (d 14 = true → d 7 = true) ∧ (d 13 = true → d 3 = true) ∧ (Own Y (nums .u64 (limb B) 4) w) ∧ (Own R (nums .u64 (fun _ => 0) 4) w)) rfl ?h0w1 (?stw1 : StepsF _ _ _ _ 15 _ _ [0, 1, 2, 3, 4, 5, 6, 7, 8, 9, 10, 11, 12, 13, 14]) ?dnw1
      case h0w1 => exact ⟨Below.drew HB.out, (fun h => nomatch h), (fun h => nomatch h), (fun h => nomatch h), (fun h => nomatch h), (fun h => nomatch h), (fun h => nomatch h), (fun h => nomatch h), (fun h => nomatch h), (fun h => nomatch h), (fun h => nomatch h), (fun h => nomatch h), (fun h => nomatch h), (fun h => nomatch h), (fun _ => HX.out.drew), (fun h => nomatch h), (fun h => nomatch h), (fun _ => rfl), (fun h => nomatch h), (fun h => nomatch h), HY.out.drew, HR.out.drew⟩
      case stw1 =>
        refine StepsF.cons (o := _) rfl (ws := []) (by kernel_rfl) (by decide) (fun d s b w hF hd hw K_ hK => ?_) ?_
        · have hB : Below E.heap.size E w := (p0_ hF.out)
          dsimp only
          go_simp
          exact hK.out (ups s 11 (.int .i64 (k : Int))) b _ ⟨hB, (fun _ => rfl), (p2_ hF.out), (p3_ hF.out), (p4_ hF.out), (p5_ hF.out), (p6_ hF.out), (p7_ hF.out), (p8_ hF.out), (p9_ hF.out), (p10_ hF.out), (p11_ hF.out), (p12_ hF.out), (p13_ hF.out), (p14_ hF.out), (p15_ hF.out), (p16_ hF.out), (p17_ hF.out), (p18_ hF.out), (p19_ hF.out), (p20_ hF.out), (q21_ hF.out)⟩
        refine StepsF.cons (o := _) rfl (ws := []) (by kernel_rfl) (by decide) (fun d s b w hF hd hw K_ hK => ?_) ?_
        · have hB : Below E.heap.size E w := (p0_ hF.out)
          dsimp only
          go_simp
          exact hK.out (ups s 12 (.int .i64 (k : Int))) b _ ⟨hB, (p1_ hF.out), (fun _ => rfl), (p3_ hF.out), (p4_ hF.out), (p5_ hF.out), (p6_ hF.out), (p7_ hF.out), (p8_ hF.out), (p9_ hF.out), (p10_ hF.out), (p11_ hF.out), (p12_ hF.out), (p13_ hF.out), (p14_ hF.out), (p15_ hF.out), (p16_ hF.out), (p17_ hF.out), (p18_ hF.out), (p19_ hF.out), (p20_ hF.out), (q21_ hF.out)⟩
        refine StepsF.cons (o := _) rfl (ws := [1]) (by kernel_rfl) (by decide) (fun d s b w hF hd hw K_ hK => ?_) ?_
        · have hB : Below E.heap.size E w := (p0_ hF.out)
          have e1 : s 12 = .int .i64 (k : Int) := (p2_ hF.out) (hw 1 (by decide))
          dsimp only
          go_simp
          exact hK.out (ups (ups s 12 (.int .i64 (k : Int))) 13 (.pointer (some ⟨X, k, none⟩))) b _ ⟨hB, (p1_ hF.out), (fun _ => rfl), (fun _ => rfl), (p4_ hF.out), (p5_ hF.out), (p6_ hF.out), (p7_ hF.out), (p8_ hF.out), (p9_ hF.out), (p10_ hF.out), (p11_ hF.out), (p12_ hF.out), (p13_ hF.out), (p14_ hF.out), (p15_ hF.out), (p16_ hF.out), (p17_ hF.out), (p18_ hF.out), (p19_ hF.out), (p20_ hF.out), (q21_ hF.out)⟩
        refine StepsF.cons (o := _) rfl (ws := [2]) (by kernel_rfl) (by decide) (fun d s b w hF hd hw K_ hK => ?_) ?_
        · have hB : Below E.heap.size E w := (p0_ hF.out)
          have e2 : s 13 = .pointer (some ⟨X, k, none⟩) := (p3_ hF.out) (hw 2 (by decide))
          dsimp only
          have cX := ((p14_ hF.out) (by cases e : d 13 with | false => rfl | true => exact absurd ((p19_ hF.out) e) (by simp [hd]))).at k _ (by rw [nums_at _ _ hlt, mixL_at, eX.out])
          go_simp
          exact hK.out (ups (ups s 13 (.pointer (some ⟨X, k, none⟩))) 14 (.int .u64 x)) b _ ⟨hB, (p1_ hF.out), (p2_ hF.out), (fun _ => rfl), (fun _ => rfl), (p5_ hF.out), (p6_ hF.out), (p7_ hF.out), (p8_ hF.out), (p9_ hF.out), (p10_ hF.out), (p11_ hF.out), (p12_ hF.out), (p13_ hF.out), (p14_ hF.out), (p15_ hF.out), (p16_ hF.out), (p17_ hF.out), (p18_ hF.out), (fun _ => rfl), (p20_ hF.out), (q21_ hF.out)⟩
        refine StepsF.cons (o := _) rfl (ws := []) (by kernel_rfl) (by decide) (fun d s b w hF hd hw K_ hK => ?_) ?_
        · have hB : Below E.heap.size E w := (p0_ hF.out)
          dsimp only
          go_simp
          exact hK.out (ups s 15 (.int .i64 (k : Int))) b _ ⟨hB, (p1_ hF.out), (p2_ hF.out), (p3_ hF.out), (p4_ hF.out), (fun _ => rfl), (p6_ hF.out), (p7_ hF.out), (p8_ hF.out), (p9_ hF.out), (p10_ hF.out), (p11_ hF.out), (p12_ hF.out), (p13_ hF.out), (p14_ hF.out), (p15_ hF.out), (p16_ hF.out), (p17_ hF.out), (p18_ hF.out), (p19_ hF.out), (p20_ hF.out), (q21_ hF.out)⟩
        refine StepsF.cons (o := _) rfl (ws := [4]) (by kernel_rfl) (by decide) (fun d s b w hF hd hw K_ hK => ?_) ?_
        · have hB : Below E.heap.size E w := (p0_ hF.out)
          have e4 : s 15 = .int .i64 (k : Int) := (p5_ hF.out) (hw 4 (by decide))
          dsimp only
          go_simp
          exact hK.out (ups (ups s 15 (.int .i64 (k : Int))) 16 (.pointer (some ⟨Y, k, none⟩))) b _ ⟨hB, (p1_ hF.out), (p2_ hF.out), (p3_ hF.out), (p4_ hF.out), (fun _ => rfl), (fun _ => rfl), (p7_ hF.out), (p8_ hF.out), (p9_ hF.out), (p10_ hF.out), (p11_ hF.out), (p12_ hF.out), (p13_ hF.out), (p14_ hF.out), (p15_ hF.out), (p16_ hF.out), (p17_ hF.out), (p18_ hF.out), (p19_ hF.out), (p20_ hF.out), (q21_ hF.out)⟩
        refine StepsF.cons (o := _) rfl (ws := [5]) (by kernel_rfl) (by decide) (fun d s b w hF hd hw K_ hK => ?_) ?_
        · have hB : Below E.heap.size E w := (p0_ hF.out)
          have e5 : s 16 = .pointer (some ⟨Y, k, none⟩) := (p6_ hF.out) (hw 5 (by decide))
          dsimp only
          have cY := (p20_ hF.out).at k _ (by rw [nums_at _ _ hlt, eY.out])
          go_simp
          exact hK.out (ups (ups s 16 (.pointer (some ⟨Y, k, none⟩))) 17 (.int .u64 y)) b _ ⟨hB, (p1_ hF.out), (p2_ hF.out), (p3_ hF.out), (p4_ hF.out), (p5_ hF.out), (fun _ => rfl), (fun _ => rfl), (p8_ hF.out), (p9_ hF.out), (p10_ hF.out), (p11_ hF.out), (p12_ hF.out), (p13_ hF.out), (p14_ hF.out), (p15_ hF.out), (p16_ hF.out), (p17_ hF.out), (p18_ hF.out), (p19_ hF.out), (p20_ hF.out), (q21_ hF.out)⟩
        refine StepsF.cons (o := _) rfl (ws := []) (by kernel_rfl) (by decide) (fun d s b w hF hd hw K_ hK => ?_) ?_
        · have hB : Below E.heap.size E w := (p0_ hF.out)
          have e14 : s 5 = .int .u64 ca := (p17_ hF.out) (by cases e : d 14 with | false => rfl | true => exact absurd ((p18_ hF.out) e) (by simp [hd]))
          dsimp only
          go_simp
          exact hK.out (ups (ups s 5 (.int .u64 ca)) 18 (.int .u64 ca)) b _ ⟨hB, (p1_ hF.out), (p2_ hF.out), (p3_ hF.out), (p4_ hF.out), (p5_ hF.out), (p6_ hF.out), (p7_ hF.out), (fun _ => rfl), (p9_ hF.out), (p10_ hF.out), (p11_ hF.out), (p12_ hF.out), (p13_ hF.out), (p14_ hF.out), (p15_ hF.out), (fun h => absurd ((p18_ hF.out) h) (by simp [hd])), (fun _ => rfl), (fun _ => rfl), (p19_ hF.out), (p20_ hF.out), (q21_ hF.out)⟩
        refine StepsF.cons (o := _) rfl (ws := [3, 6, 7]) (by kernel_rfl) (by decide) (fun d s b w hF hd hw K_ hK => ?_) ?_
        · have hB : Below E.heap.size E w := (p0_ hF.out)
          have e3 : s 14 = .int .u64 x := (p4_ hF.out) (hw 3 (by decide))
          have e6 : s 17 = .int .u64 y := (p7_ hF.out) (hw 6 (by decide))
          have e7 : s 18 = .int .u64 ca := (p8_ hF.out) (hw 7 (by decide))
          dsimp only
          have adw := ad w
          go_simp
          exact hK.out (ups (ups (ups (ups s 14 (.int .u64 x)) 17 (.int .u64 y)) 18 (.int .u64 ca)) 19 (.tuple #[.int .u64 z, .int .u64 cb])) b _ ⟨hB, (p1_ hF.out), (p2_ hF.out), (p3_ hF.out), (fun _ => rfl), (p5_ hF.out), (p6_ hF.out), (fun _ => rfl), (fun _ => rfl), (fun _ => rfl), (p10_ hF.out), (p11_ hF.out), (p12_ hF.out), (p13_ hF.out), (p14_ hF.out), (p15_ hF.out), (p16_ hF.out), (p17_ hF.out), (p18_ hF.out), (p19_ hF.out), (p20_ hF.out), (q21_ hF.out)⟩
        refine StepsF.cons (o := _) rfl (ws := [8]) (by kernel_rfl) (by decide) (fun d s b w hF hd hw K_ hK => ?_) ?_
        · have hB : Below E.heap.size E w := (p0_ hF.out)
          have e8 : s 19 = .tuple #[.int .u64 z, .int .u64 cb] := (p9_ hF.out) (hw 8 (by decide))
          dsimp only
          go_simp
          exact hK.out (ups (ups s 19 (.tuple #[.int .u64 z, .int .u64 cb])) 10 (.tuple #[.int .u64 z, .int .u64 cb])) b _ ⟨hB, (p1_ hF.out), (p2_ hF.out), (p3_ hF.out), (p4_ hF.out), (p5_ hF.out), (p6_ hF.out), (p7_ hF.out), (p8_ hF.out), (fun _ => rfl), (fun _ => rfl), (p11_ hF.out), (p12_ hF.out), (p13_ hF.out), (p14_ hF.out), (p15_ hF.out), (p16_ hF.out), (p17_ hF.out), (p18_ hF.out), (p19_ hF.out), (p20_ hF.out), (q21_ hF.out)⟩
        refine StepsF.cons (o := _) rfl (ws := [9]) (by kernel_rfl) (by decide) (fun d s b w hF hd hw K_ hK => ?_) ?_
        · have hB : Below E.heap.size E w := (p0_ hF.out)
          have e9 : s 10 = .tuple #[.int .u64 z, .int .u64 cb] := (p10_ hF.out) (hw 9 (by decide))
          dsimp only
          go_simp
          exact hK.out (ups (ups s 10 (.tuple #[.int .u64 z, .int .u64 cb])) 20 (.int .u64 z)) b _ ⟨hB, (p1_ hF.out), (p2_ hF.out), (p3_ hF.out), (p4_ hF.out), (p5_ hF.out), (p6_ hF.out), (p7_ hF.out), (p8_ hF.out), (p9_ hF.out), (fun _ => rfl), (fun _ => rfl), (p12_ hF.out), (p13_ hF.out), (p14_ hF.out), (p15_ hF.out), (p16_ hF.out), (p17_ hF.out), (p18_ hF.out), (p19_ hF.out), (p20_ hF.out), (q21_ hF.out)⟩
        refine StepsF.cons (o := _) rfl (ws := [9]) (by kernel_rfl) (by decide) (fun d s b w hF hd hw K_ hK => ?_) ?_
        · have hB : Below E.heap.size E w := (p0_ hF.out)
          have e9 : s 10 = .tuple #[.int .u64 z, .int .u64 cb] := (p10_ hF.out) (hw 9 (by decide))
          dsimp only
          go_simp
          exact hK.out (ups (ups s 10 (.tuple #[.int .u64 z, .int .u64 cb])) 21 (.int .u64 cb)) b _ ⟨hB, (p1_ hF.out), (p2_ hF.out), (p3_ hF.out), (p4_ hF.out), (p5_ hF.out), (p6_ hF.out), (p7_ hF.out), (p8_ hF.out), (p9_ hF.out), (fun _ => rfl), (p11_ hF.out), (fun _ => rfl), (p13_ hF.out), (p14_ hF.out), (p15_ hF.out), (p16_ hF.out), (p17_ hF.out), (p18_ hF.out), (p19_ hF.out), (p20_ hF.out), (q21_ hF.out)⟩
        refine StepsF.cons (o := _) rfl (ws := [0, 0, 1, 2, 3, 4, 5, 6, 7, 8, 9, 10]) (by kernel_rfl) (by decide) (fun d s b w hF hd hw K_ hK => ?_) ?_
        · have hB : Below E.heap.size E w := (p0_ hF.out)
          have e0 : s 11 = .int .i64 (k : Int) := (p1_ hF.out) (hw 0 (by decide))
          have e1 : s 12 = .int .i64 (k : Int) := (p2_ hF.out) (hw 1 (by decide))
          have e2 : s 13 = .pointer (some ⟨X, k, none⟩) := (p3_ hF.out) (hw 2 (by decide))
          have e3 : s 14 = .int .u64 x := (p4_ hF.out) (hw 3 (by decide))
          have e4 : s 15 = .int .i64 (k : Int) := (p5_ hF.out) (hw 4 (by decide))
          have e5 : s 16 = .pointer (some ⟨Y, k, none⟩) := (p6_ hF.out) (hw 5 (by decide))
          have e6 : s 17 = .int .u64 y := (p7_ hF.out) (hw 6 (by decide))
          have e7 : s 18 = .int .u64 ca := (p8_ hF.out) (hw 7 (by decide))
          have e8 : s 19 = .tuple #[.int .u64 z, .int .u64 cb] := (p9_ hF.out) (hw 8 (by decide))
          have e9 : s 10 = .tuple #[.int .u64 z, .int .u64 cb] := (p10_ hF.out) (hw 9 (by decide))
          have e10 : s 20 = .int .u64 z := (p11_ hF.out) (hw 10 (by decide))
          dsimp only
          go_simp
          exact hK.out (ups (ups (ups (ups (ups (ups (ups (ups (ups (ups (ups (ups s 11 (.int .i64 (k : Int))) 12 (.int .i64 (k : Int))) 13 (.pointer (some ⟨X, k, none⟩))) 14 (.int .u64 x)) 15 (.int .i64 (k : Int))) 16 (.pointer (some ⟨Y, k, none⟩))) 17 (.int .u64 y)) 18 (.int .u64 ca)) 19 (.tuple #[.int .u64 z, .int .u64 cb])) 10 (.tuple #[.int .u64 z, .int .u64 cb])) 20 (.int .u64 z)) 22 (.pointer (some ⟨X, k, none⟩))) b _ ⟨hB, (fun _ => rfl), (fun _ => rfl), (fun _ => rfl), (fun _ => rfl), (fun _ => rfl), (fun _ => rfl), (fun _ => rfl), (fun _ => rfl), (fun _ => rfl), (fun _ => rfl), (fun _ => rfl), (p12_ hF.out), (fun _ => rfl), (p14_ hF.out), (p15_ hF.out), (p16_ hF.out), (p17_ hF.out), (p18_ hF.out), (p19_ hF.out), (p20_ hF.out), (q21_ hF.out)⟩
        refine StepsF.cons (o := _) rfl (ws := [12, 10, 8, 0, 1, 2, 3, 4, 5, 6, 7, 8, 9, 10]) (by kernel_rfl) (by decide) (fun d s b w hF hd hw K_ hK => ?_) ?_
        · have hB : Below E.heap.size E w := (p0_ hF.out)
          have e0 : s 11 = .int .i64 (k : Int) := (p1_ hF.out) (hw 0 (by decide))
          have e1 : s 12 = .int .i64 (k : Int) := (p2_ hF.out) (hw 1 (by decide))
          have e2 : s 13 = .pointer (some ⟨X, k, none⟩) := (p3_ hF.out) (hw 2 (by decide))
          have e3 : s 14 = .int .u64 x := (p4_ hF.out) (hw 3 (by decide))
          have e4 : s 15 = .int .i64 (k : Int) := (p5_ hF.out) (hw 4 (by decide))
          have e5 : s 16 = .pointer (some ⟨Y, k, none⟩) := (p6_ hF.out) (hw 5 (by decide))
          have e6 : s 17 = .int .u64 y := (p7_ hF.out) (hw 6 (by decide))
          have e7 : s 18 = .int .u64 ca := (p8_ hF.out) (hw 7 (by decide))
          have e8 : s 19 = .tuple #[.int .u64 z, .int .u64 cb] := (p9_ hF.out) (hw 8 (by decide))
          have e9 : s 10 = .tuple #[.int .u64 z, .int .u64 cb] := (p10_ hF.out) (hw 9 (by decide))
          have e10 : s 20 = .int .u64 z := (p11_ hF.out) (hw 10 (by decide))
          have e12 : s 22 = .pointer (some ⟨X, k, none⟩) := (p13_ hF.out) (hw 12 (by decide))
          dsimp only
          have oX := (p14_ hF.out) hd
          have fr := oX.ok k (by rw [nums_length]; exact hlt)
          have ce := oX.at k _ (by rw [nums_at _ _ hlt])
          go_simp
          exact hK.out (ups (ups (ups (ups (ups (ups (ups (ups (ups (ups (ups (ups s 11 (.int .i64 (k : Int))) 12 (.int .i64 (k : Int))) 13 (.pointer (some ⟨X, k, none⟩))) 14 (.int .u64 x)) 15 (.int .i64 (k : Int))) 16 (.pointer (some ⟨Y, k, none⟩))) 17 (.int .u64 y)) 18 (.int .u64 ca)) 19 (.tuple #[.int .u64 z, .int .u64 cb])) 10 (.tuple #[.int .u64 z, .int .u64 cb])) 20 (.int .u64 z)) 22 (.pointer (some ⟨X, k, none⟩))) b _ ⟨(Below.setCells hB Xw [.int .u64 z] k), (fun _ => rfl), (fun _ => rfl), (fun _ => rfl), (fun _ => rfl), (fun _ => rfl), (fun _ => rfl), (fun _ => rfl), (fun _ => rfl), (fun _ => rfl), (fun _ => rfl), (fun _ => rfl), (p12_ hF.out), (fun _ => rfl), (fun h => nomatch h), (fun _ => (ME.out ▸ own_set (v := z) oX hlt)), (p16_ hF.out), (p17_ hF.out), (p18_ hF.out), (fun _ => hw 3 (by decide)), (Own.far (o := k) (vs := [.int .u64 z]) (p20_ hF.out) nYX), (Own.far (o := k) (vs := [.int .u64 z]) (q21_ hF.out) nRX)⟩
        refine StepsF.cons (o := _) rfl (ws := [11, 13, 0, 1, 2, 3, 4, 5, 6, 7, 8, 9, 10, 11, 12, 13]) (by kernel_rfl) (by decide) (fun d s b w hF hd hw K_ hK => ?_) ?_
        · have hB : Below E.heap.size E w := (p0_ hF.out)
          have e0 : s 11 = .int .i64 (k : Int) := (p1_ hF.out) (hw 0 (by decide))
          have e1 : s 12 = .int .i64 (k : Int) := (p2_ hF.out) (hw 1 (by decide))
          have e2 : s 13 = .pointer (some ⟨X, k, none⟩) := (p3_ hF.out) (hw 2 (by decide))
          have e3 : s 14 = .int .u64 x := (p4_ hF.out) (hw 3 (by decide))
          have e4 : s 15 = .int .i64 (k : Int) := (p5_ hF.out) (hw 4 (by decide))
          have e5 : s 16 = .pointer (some ⟨Y, k, none⟩) := (p6_ hF.out) (hw 5 (by decide))
          have e6 : s 17 = .int .u64 y := (p7_ hF.out) (hw 6 (by decide))
          have e7 : s 18 = .int .u64 ca := (p8_ hF.out) (hw 7 (by decide))
          have e8 : s 19 = .tuple #[.int .u64 z, .int .u64 cb] := (p9_ hF.out) (hw 8 (by decide))
          have e9 : s 10 = .tuple #[.int .u64 z, .int .u64 cb] := (p10_ hF.out) (hw 9 (by decide))
          have e10 : s 20 = .int .u64 z := (p11_ hF.out) (hw 10 (by decide))
          have e11 : s 21 = .int .u64 cb := (p12_ hF.out) (hw 11 (by decide))
          have e12 : s 22 = .pointer (some ⟨X, k, none⟩) := (p13_ hF.out) (hw 12 (by decide))
          dsimp only
          go_simp
          exact hK.out (ups (ups (ups (ups (ups (ups (ups (ups (ups (ups (ups (ups (ups (ups s 11 (.int .i64 (k : Int))) 12 (.int .i64 (k : Int))) 13 (.pointer (some ⟨X, k, none⟩))) 14 (.int .u64 x)) 15 (.int .i64 (k : Int))) 16 (.pointer (some ⟨Y, k, none⟩))) 17 (.int .u64 y)) 18 (.int .u64 ca)) 19 (.tuple #[.int .u64 z, .int .u64 cb])) 10 (.tuple #[.int .u64 z, .int .u64 cb])) 20 (.int .u64 z)) 21 (.int .u64 cb)) 22 (.pointer (some ⟨X, k, none⟩))) 5 (.int .u64 cb)) b _ ⟨hB, (fun _ => rfl), (fun _ => rfl), (fun _ => rfl), (fun _ => rfl), (fun _ => rfl), (fun _ => rfl), (fun _ => rfl), (fun _ => rfl), (fun _ => rfl), (fun _ => rfl), (fun _ => rfl), (fun _ => rfl), (fun _ => rfl), (p14_ hF.out), (p15_ hF.out), (fun _ => rfl), (fun h => nomatch h), (fun _ => hw 7 (by decide)), (p19_ hF.out), (p20_ hF.out), (q21_ hF.out)⟩
        exact StepsF.nil
      intro d s b w1 hF hall
      replace hF := Lib.hid hF
      have hB : Below E.heap.size E w1 := (p0_ hF.out)
      try dsimp only
      have e0 : s 11 = .int .i64 (k : Int) := (p1_ hF.out) (hall 0 (by decide))
      have e1 : s 12 = .int .i64 (k : Int) := (p2_ hF.out) (hall 1 (by decide))
      have e2 : s 13 = .pointer (some ⟨X, k, none⟩) := (p3_ hF.out) (hall 2 (by decide))
      have e3 : s 14 = .int .u64 x := (p4_ hF.out) (hall 3 (by decide))
      have e4 : s 15 = .int .i64 (k : Int) := (p5_ hF.out) (hall 4 (by decide))
      have e5 : s 16 = .pointer (some ⟨Y, k, none⟩) := (p6_ hF.out) (hall 5 (by decide))
      have e6 : s 17 = .int .u64 y := (p7_ hF.out) (hall 6 (by decide))
      have e7 : s 18 = .int .u64 ca := (p8_ hF.out) (hall 7 (by decide))
      have e8 : s 19 = .tuple #[.int .u64 z, .int .u64 cb] := (p9_ hF.out) (hall 8 (by decide))
      have e9 : s 10 = .tuple #[.int .u64 z, .int .u64 cb] := (p10_ hF.out) (hall 9 (by decide))
      have e10 : s 20 = .int .u64 z := (p11_ hF.out) (hall 10 (by decide))
      have e11 : s 21 = .int .u64 cb := (p12_ hF.out) (hall 11 (by decide))
      have e12 : s 22 = .pointer (some ⟨X, k, none⟩) := (p13_ hF.out) (hall 12 (by decide))
      have f13 := (p15_ hF.out) (hall 13 (by decide))
      have e14 : s 5 = .int .u64 cb := (p16_ hF.out) (hall 14 (by decide))
      have oy := (p20_ hF.out)
      have orr := (q21_ hF.out)
      rw [e0, e1, e2, e3, e4, e5, e6, e7, e8, e9, e10, e11, e12, e14]
      clear hall hF e0 e1 e2 e3 e4 e5 e6 e7 e8 e9 e10 e11 e12 e14
      clear d s b
      have o0 := Lib.hid hB; have o1 := Lib.hid f13; have o2 := Lib.hid oy; have o3 := Lib.hid orr
      clear HX HY HR HB hB f13 oy orr
      go_wp2_with (fail)
      go_roundw
      case rel => (first | exact ⟨k + 1, by omega, by rw [ED.out], by go_num, o0, o1, o2, o3⟩ | ((repeat apply Exists.intro); exact ⟨⟨k + 1, by omega, by rw [ED.out], by go_num, o0, o1, o2, o3⟩, rfl⟩))
      case measure => simp [intOf]; omega
    · have e4 : k = 4 := by omega
      subst e4
      rw [mixL_all] at HX
      go_upto_region 7 with fail
      have hB0 := HB.out
      refine wp_region_lit ?_
      refine wpList_load_mid rfl 59 _ rfl X 0 rfl (nums .u64 (limb (A + B)) 4) _ HX.out.cell Try.underlying59 rfl (by kernel_rfl) ?_
      refine wpList_store_mid rfl 59 _ _ rfl R 0 (nums .u64 (limb (A + B)) 4).toArray rfl rfl HR.out.free (by kernel_rfl) (nums_all _ _ _) ?_
      change wpList _ _ _ [] _ (wr.setCells R 0 (nums .u64 (limb (A + B)) 4))
      have HRn : Hid (Own R (nums .u64 (limb (A + B)) 4) (wr.setCells R 0 (nums .u64 (limb (A + B)) 4))) := Lib.hid (Own.store HR.out (by simp [nums_length]))
      have HXn : Hid (Own X (nums .u64 (limb (A + B)) 4) (wr.setCells R 0 (nums .u64 (limb (A + B)) 4))) := Lib.hid (Own.far (o := 0) (vs := (nums .u64 (limb (A + B)) 4)) HX.out nXR)
      have hB0n : Below w.heap.size w (wr.setCells R 0 (nums .u64 (limb (A + B)) 4)) := Below.setCells hB0 Rw (nums .u64 (limb (A + B)) 4) 0
      clear HR HX hB0
      generalize (wr.setCells R 0 (nums .u64 (limb (A + B)) 4)) = wz at *
      have HR := HRn
      clear HRn
      have HX := HXn
      clear HXn
      have hB0 := hB0n
      clear hB0n
      go_wp2_with (fail)
      have hL := run_loadVar_mid (P := Try.prog) _ R 0 59 (nums .u64 (limb (A + B)) 4) _ HR.out.cell Try.underlying59 rfl (by kernel_rfl)
      exact bodyPost_ret (v := .agg (nums .u64 (limb (A + B)) 4).toArray) (res_cell Try.results28 rfl hL) rfl ⟨rfl, hB0⟩
end Go.Proofs.Ytbofihejegbfhaa
