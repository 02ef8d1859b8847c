/- poly.Clamp, the document's Clamp. -/
import Derived.Test.YtbofihejegbfhaaNF
import Derived.Lib.Hide
namespace Go.Proofs.Ytbofihejegbfhaa
set_option linter.unusedVariables false
set_option maxRecDepth 2000
set_option linter.unusedSimpArgs false
open Go.RowKit
def clampF (f : Nat → Int) (i : Nat) : Int := if i % 4 = 3 then f i % 16 else if i % 4 = 0 ∧ 0 < i then f i / 4 * 4 else f i
theorem in_clampF {f : Nat → Int} {i : Nat} (h : inB (f i)) : inB (clampF f i) := by
  unfold clampF inB at *
  split
  · omega
  · split <;> omega
theorem and15 (x : Int) (h : inB x) : bits .and .u8 x 15 = x % 16 := by
  obtain ⟨a, rfl⟩ := Int.eq_ofNat_of_zero_le h.1
  have := h.2
  rw [show (15 : Int) = ((15 : Nat) : Int) from rfl, u8_and_nat a 15 (by omega) (by decide), show (15 : Nat) = 2 ^ 4 - 1 from rfl, Nat.and_two_pow_sub_one_eq_mod]
  omega
theorem and252 (x : Int) (h : inB x) : bits .and .u8 x 252 = x / 4 * 4 := by
  obtain ⟨a, rfl⟩ := Int.eq_ofNat_of_zero_le h.1
  have h2 := h.2
  have all : ∀ j : Fin 256, j.val &&& 252 = j.val / 4 * 4 := by decide +kernel
  have := all ⟨a, by omega⟩
  rw [show (252 : Int) = ((252 : Nat) : Int) from rfl, u8_and_nat a 252 (by omega) (by decide), show a &&& 252 = a / 4 * 4 from this]
  omega
attribute [local go_sem] nums_length

set_option maxHeartbeats 8000000 in
theorem Clamp_any (f : Nat → Int) (hf : ∀ i, i < 16 → inB (f i)) (w : World) :
    Calls Try.prog 13 #[(.agg (nums .u8 f 16).toArray)] w fun e w' => e = .returned (.agg (nums .u8 (clampF f) 16).toArray) ∧ Below w.heap.size w w' := by
  have a3 := and15 (f 3) (hf 3 (by decide))
  have a7 := and15 (f 7) (hf 7 (by decide))
  have a11 := and15 (f 11) (hf 11 (by decide))
  have a15 := and15 (f 15) (hf 15 (by decide))
  have a4 := and252 (f 4) (hf 4 (by decide))
  have a8 := and252 (f 8) (hf 8 (by decide))
  have a12 := and252 (f 12) (hf 12 (by decide))
  obtain ⟨x3, ex3⟩ : ∃ z, f 3 = z := ⟨_, rfl⟩
  rw [ex3] at a3
  obtain ⟨x7, ex7⟩ : ∃ z, f 7 = z := ⟨_, rfl⟩
  rw [ex7] at a7
  obtain ⟨x11, ex11⟩ : ∃ z, f 11 = z := ⟨_, rfl⟩
  rw [ex11] at a11
  obtain ⟨x15, ex15⟩ : ∃ z, f 15 = z := ⟨_, rfl⟩
  rw [ex15] at a15
  obtain ⟨x4, ex4⟩ : ∃ z, f 4 = z := ⟨_, rfl⟩
  rw [ex4] at a4
  obtain ⟨x8, ex8⟩ : ∃ z, f 8 = z := ⟨_, rfl⟩
  rw [ex8] at a8
  obtain ⟨x12, ex12⟩ : ∃ z, f 12 = z := ⟨_, rfl⟩
  rw [ex12] at a12
  clear hf
  have i3 : ∀ w, (Instr.index 54 (.agg #[.int .i64 3, .int .i64 7, .int .i64 11, .int .i64 15]) (.int .i64 0)).run Try.prog w = .ok (.int .i64 3) w := fun w => by kernel_rfl
  have i7 : ∀ w, (Instr.index 54 (.agg #[.int .i64 3, .int .i64 7, .int .i64 11, .int .i64 15]) (.int .i64 1)).run Try.prog w = .ok (.int .i64 7) w := fun w => by kernel_rfl
  have i11 : ∀ w, (Instr.index 54 (.agg #[.int .i64 3, .int .i64 7, .int .i64 11, .int .i64 15]) (.int .i64 2)).run Try.prog w = .ok (.int .i64 11) w := fun w => by kernel_rfl
  have i15 : ∀ w, (Instr.index 54 (.agg #[.int .i64 3, .int .i64 7, .int .i64 11, .int .i64 15]) (.int .i64 3)).run Try.prog w = .ok (.int .i64 15) w := fun w => by kernel_rfl
  have i4 : ∀ w, (Instr.index 55 (.agg #[.int .i64 4, .int .i64 8, .int .i64 12]) (.int .i64 0)).run Try.prog w = .ok (.int .i64 4) w := fun w => by kernel_rfl
  have i8 : ∀ w, (Instr.index 55 (.agg #[.int .i64 4, .int .i64 8, .int .i64 12]) (.int .i64 1)).run Try.prog w = .ok (.int .i64 8) w := fun w => by kernel_rfl
  have i12 : ∀ w, (Instr.index 55 (.agg #[.int .i64 4, .int .i64 8, .int .i64 12]) (.int .i64 2)).run Try.prog w = .ok (.int .i64 12) w := fun w => by kernel_rfl
  go_enter Try.func13, Try.ntmps13
  go_upto_region 1 with fail
  obtain ⟨W0, hW⟩ : ∃ W0, W0 = ((w.alloc (.cells (nums .u8 f 16).toArray 29)).alloc (.cells #[.int .u8 0, .int .u8 0, .int .u8 0, .int .u8 0, .int .u8 0, .int .u8 0, .int .u8 0, .int .u8 0, .int .u8 0, .int .u8 0, .int .u8 0, .int .u8 0, .int .u8 0, .int .u8 0, .int .u8 0, .int .u8 0] 29)) := ⟨_, rfl⟩
  have hB0 : Below w.heap.size w W0 := hW ▸ (Below.al (Below.al (Below.refl _ _)))
  have HX : Hid (Own w.heap.size (nums .u8 f 16) W0) := Lib.hid (hW ▸ (show Own w.heap.size (nums .u8 f 16) (w.alloc (.cells (nums .u8 f 16).toArray 29)) from Own.newAt (by simp)).alloc)
  have HR : Hid (Own (w.heap.size + 1) (nums .u8 (fun _ => 0) 16) W0) := Lib.hid (hW ▸ (show Own (w.heap.size + 1) (nums .u8 (fun _ => 0) 16) ((w.alloc (.cells (nums .u8 f 16).toArray 29)).alloc (.cells #[.int .u8 0, .int .u8 0, .int .u8 0, .int .u8 0, .int .u8 0, .int .u8 0, .int .u8 0, .int .u8 0, .int .u8 0, .int .u8 0, .int .u8 0, .int .u8 0, .int .u8 0, .int .u8 0, .int .u8 0, .int .u8 0] 29)) from Own.newAt (by simp)))
  rw [← hW]
  clear hW
  obtain ⟨R, eR⟩ : ∃ X, X = (w.heap.size + 1) := ⟨_, rfl⟩
  rw [← eR] at HR ⊢
  have Rw : w.heap.size ≤ R := by omega
  obtain ⟨X, eX⟩ : ∃ X, X = w.heap.size := ⟨_, rfl⟩
  rw [← eX] at HX ⊢
  have Xw : w.heap.size ≤ X := by omega
  have nXR : X ≠ R := by omega
  have nRX : R ≠ X := by omega
  clear eX eR
  go_wp2_with (fail)
  refine wp_loop_rounds 5 ?_
  rw [rounds_succ]
  have c0 := HX.out.at 3 _ (nums_at _ _ (by decide))
  rw [show f 3 = x3 from ex3] at c0
  have cf := HX.out.ok 3 (by rw [nums_length]; decide)
  have Xl := HX.out.lt
  go_wp2_with (fail)
  clear c0 cf Xl
  rw [show (W0.setCell ⟨X, 3, none⟩ (.int .u8 (x3 % 16))) = W0.setCells X 3 [.int .u8 (x3 % 16)] from rfl]
  have HXn : Hid (Own X (nums .u8 (at1 f 3 (x3 % 16)) 16) (W0.setCells X 3 [.int .u8 (x3 % 16)])) := Lib.hid (own_set HX.out (by decide))
  have HRn : Hid (Own R (nums .u8 (fun _ => 0) 16) (W0.setCells X 3 [.int .u8 (x3 % 16)])) := Lib.hid (Own.far (o := 3) (vs := [.int .u8 (x3 % 16)]) HR.out nRX)
  have hB0n : Below w.heap.size w (W0.setCells X 3 [.int .u8 (x3 % 16)]) := Below.setCells hB0 Xw [.int .u8 (x3 % 16)] 3
  clear HX HR hB0
  generalize (W0.setCells X 3 [.int .u8 (x3 % 16)]) = w1 at *
  have HX := HXn
  clear HXn
  have HR := HRn
  clear HRn
  have hB0 := hB0n
  clear hB0n
  rw [rounds_succ]
  have c0 := HX.out.at 7 _ (nums_at _ _ (by decide))
  rw [show (at1 f 3 (x3 % 16)) 7 = x7 from ex7] at c0
  have cf := HX.out.ok 7 (by rw [nums_length]; decide)
  have Xl := HX.out.lt
  go_wp2_with (fail)
  clear c0 cf Xl
  rw [show (w1.setCell ⟨X, 7, none⟩ (.int .u8 (x7 % 16))) = w1.setCells X 7 [.int .u8 (x7 % 16)] from rfl]
  have HXn : Hid (Own X (nums .u8 (at1 (at1 f 3 (x3 % 16)) 7 (x7 % 16)) 16) (w1.setCells X 7 [.int .u8 (x7 % 16)])) := Lib.hid (own_set HX.out (by decide))
  have HRn : Hid (Own R (nums .u8 (fun _ => 0) 16) (w1.setCells X 7 [.int .u8 (x7 % 16)])) := Lib.hid (Own.far (o := 7) (vs := [.int .u8 (x7 % 16)]) HR.out nRX)
  have hB0n : Below w.heap.size w (w1.setCells X 7 [.int .u8 (x7 % 16)]) := Below.setCells hB0 Xw [.int .u8 (x7 % 16)] 7
  clear HX HR hB0
  generalize (w1.setCells X 7 [.int .u8 (x7 % 16)]) = w2 at *
  have HX := HXn
  clear HXn
  have HR := HRn
  clear HRn
  have hB0 := hB0n
  clear hB0n
  rw [rounds_succ]
  have c0 := HX.out.at 11 _ (nums_at _ _ (by decide))
  rw [show (at1 (at1 f 3 (x3 % 16)) 7 (x7 % 16)) 11 = x11 from ex11] at c0
  have cf := HX.out.ok 11 (by rw [nums_length]; decide)
  have Xl := HX.out.lt
  go_wp2_with (fail)
  clear c0 cf Xl
  rw [show (w2.setCell ⟨X, 11, none⟩ (.int .u8 (x11 % 16))) = w2.setCells X 11 [.int .u8 (x11 % 16)] from rfl]
  have HXn : Hid (Own X (nums .u8 (at1 (at1 (at1 f 3 (x3 % 16)) 7 (x7 % 16)) 11 (x11 % 16)) 16) (w2.setCells X 11 [.int .u8 (x11 % 16)])) := Lib.hid (own_set HX.out (by decide))
  have HRn : Hid (Own R (nums .u8 (fun _ => 0) 16) (w2.setCells X 11 [.int .u8 (x11 % 16)])) := Lib.hid (Own.far (o := 11) (vs := [.int .u8 (x11 % 16)]) HR.out nRX)
  have hB0n : Below w.heap.size w (w2.setCells X 11 [.int .u8 (x11 % 16)]) := Below.setCells hB0 Xw [.int .u8 (x11 % 16)] 11
  clear HX HR hB0
  generalize (w2.setCells X 11 [.int .u8 (x11 % 16)]) = w3 at *
  have HX := HXn
  clear HXn
  have HR := HRn
  clear HRn
  have hB0 := hB0n
  clear hB0n
  rw [rounds_succ]
  have c0 := HX.out.at 15 _ (nums_at _ _ (by decide))
  rw [show (at1 (at1 (at1 f 3 (x3 % 16)) 7 (x7 % 16)) 11 (x11 % 16)) 15 = x15 from ex15] at c0
  have cf := HX.out.ok 15 (by rw [nums_length]; decide)
  have Xl := HX.out.lt
  go_wp2_with (fail)
  clear c0 cf Xl
  rw [show (w3.setCell ⟨X, 15, none⟩ (.int .u8 (x15 % 16))) = w3.setCells X 15 [.int .u8 (x15 % 16)] from rfl]
  have HXn : Hid (Own X (nums .u8 (at1 (at1 (at1 (at1 f 3 (x3 % 16)) 7 (x7 % 16)) 11 (x11 % 16)) 15 (x15 % 16)) 16) (w3.setCells X 15 [.int .u8 (x15 % 16)])) := Lib.hid (own_set HX.out (by decide))
  have HRn : Hid (Own R (nums .u8 (fun _ => 0) 16) (w3.setCells X 15 [.int .u8 (x15 % 16)])) := Lib.hid (Own.far (o := 15) (vs := [.int .u8 (x15 % 16)]) HR.out nRX)
  have hB0n : Below w.heap.size w (w3.setCells X 15 [.int .u8 (x15 % 16)]) := Below.setCells hB0 Xw [.int .u8 (x15 % 16)] 15
  clear HX HR hB0
  generalize (w3.setCells X 15 [.int .u8 (x15 % 16)]) = w4 at *
  have HX := HXn
  clear HXn
  have HR := HRn
  clear HRn
  have hB0 := hB0n
  clear hB0n
  rw [rounds_succ]
  go_wp2_with (fail)
  refine wp_loop_rounds 4 ?_
  rw [rounds_succ]
  have c0 := HX.out.at 4 _ (nums_at _ _ (by decide))
  rw [show (at1 (at1 (at1 (at1 f 3 (x3 % 16)) 7 (x7 % 16)) 11 (x11 % 16)) 15 (x15 % 16)) 4 = x4 from ex4] at c0
  have cf := HX.out.ok 4 (by rw [nums_length]; decide)
  have Xl := HX.out.lt
  go_wp2_with (fail)
  clear c0 cf Xl
  rw [show (w4.setCell ⟨X, 4, none⟩ (.int .u8 (x4 / 4 * 4))) = w4.setCells X 4 [.int .u8 (x4 / 4 * 4)] from rfl]
  have HXn : Hid (Own X (nums .u8 (at1 (at1 (at1 (at1 (at1 f 3 (x3 % 16)) 7 (x7 % 16)) 11 (x11 % 16)) 15 (x15 % 16)) 4 (x4 / 4 * 4)) 16) (w4.setCells X 4 [.int .u8 (x4 / 4 * 4)])) := Lib.hid (own_set HX.out (by decide))
  have HRn : Hid (Own R (nums .u8 (fun _ => 0) 16) (w4.setCells X 4 [.int .u8 (x4 / 4 * 4)])) := Lib.hid (Own.far (o := 4) (vs := [.int .u8 (x4 / 4 * 4)]) HR.out nRX)
  have hB0n : Below w.heap.size w (w4.setCells X 4 [.int .u8 (x4 / 4 * 4)]) := Below.setCells hB0 Xw [.int .u8 (x4 / 4 * 4)] 4
  clear HX HR hB0
  generalize (w4.setCells X 4 [.int .u8 (x4 / 4 * 4)]) = w5 at *
  have HX := HXn
  clear HXn
  have HR := HRn
  clear HRn
  have hB0 := hB0n
  clear hB0n
  rw [rounds_succ]
  have c0 := HX.out.at 8 _ (nums_at _ _ (by decide))
  rw [show (at1 (at1 (at1 (at1 (at1 f 3 (x3 % 16)) 7 (x7 % 16)) 11 (x11 % 16)) 15 (x15 % 16)) 4 (x4 / 4 * 4)) 8 = x8 from ex8] at c0
  have cf := HX.out.ok 8 (by rw [nums_length]; decide)
  have Xl := HX.out.lt
  go_wp2_with (fail)
  clear c0 cf Xl
  rw [show (w5.setCell ⟨X, 8, none⟩ (.int .u8 (x8 / 4 * 4))) = w5.setCells X 8 [.int .u8 (x8 / 4 * 4)] from rfl]
  have HXn : Hid (Own X (nums .u8 (at1 (at1 (at1 (at1 (at1 (at1 f 3 (x3 % 16)) 7 (x7 % 16)) 11 (x11 % 16)) 15 (x15 % 16)) 4 (x4 / 4 * 4)) 8 (x8 / 4 * 4)) 16) (w5.setCells X 8 [.int .u8 (x8 / 4 * 4)])) := Lib.hid (own_set HX.out (by decide))
  have HRn : Hid (Own R (nums .u8 (fun _ => 0) 16) (w5.setCells X 8 [.int .u8 (x8 / 4 * 4)])) := Lib.hid (Own.far (o := 8) (vs := [.int .u8 (x8 / 4 * 4)]) HR.out nRX)
  have hB0n : Below w.heap.size w (w5.setCells X 8 [.int .u8 (x8 / 4 * 4)]) := Below.setCells hB0 Xw [.int .u8 (x8 / 4 * 4)] 8
  clear HX HR hB0
  generalize (w5.setCells X 8 [.int .u8 (x8 / 4 * 4)]) = w6 at *
  have HX := HXn
  clear HXn
  have HR := HRn
  clear HRn
  have hB0 := hB0n
  clear hB0n
  rw [rounds_succ]
  have c0 := HX.out.at 12 _ (nums_at _ _ (by decide))
  rw [show (at1 (at1 (at1 (at1 (at1 (at1 f 3 (x3 % 16)) 7 (x7 % 16)) 11 (x11 % 16)) 15 (x15 % 16)) 4 (x4 / 4 * 4)) 8 (x8 / 4 * 4)) 12 = x12 from ex12] at c0
  have cf := HX.out.ok 12 (by rw [nums_length]; decide)
  have Xl := HX.out.lt
  go_wp2_with (fail)
  clear c0 cf Xl
  rw [show (w6.setCell ⟨X, 12, none⟩ (.int .u8 (x12 / 4 * 4))) = w6.setCells X 12 [.int .u8 (x12 / 4 * 4)] from rfl]
  have HXn : Hid (Own X (nums .u8 (at1 (at1 (at1 (at1 (at1 (at1 (at1 f 3 (x3 % 16)) 7 (x7 % 16)) 11 (x11 % 16)) 15 (x15 % 16)) 4 (x4 / 4 * 4)) 8 (x8 / 4 * 4)) 12 (x12 / 4 * 4)) 16) (w6.setCells X 12 [.int .u8 (x12 / 4 * 4)])) := Lib.hid (own_set HX.out (by decide))
  have HRn : Hid (Own R (nums .u8 (fun _ => 0) 16) (w6.setCells X 12 [.int .u8 (x12 / 4 * 4)])) := Lib.hid (Own.far (o := 12) (vs := [.int .u8 (x12 / 4 * 4)]) HR.out nRX)
  have hB0n : Below w.heap.size w (w6.setCells X 12 [.int .u8 (x12 / 4 * 4)]) := Below.setCells hB0 Xw [.int .u8 (x12 / 4 * 4)] 12
  clear HX HR hB0
  generalize (w6.setCells X 12 [.int .u8 (x12 / 4 * 4)]) = w7 at *
  have HX := HXn
  clear HXn
  have HR := HRn
  clear HRn
  have hB0 := hB0n
  clear hB0n
  rw [rounds_succ]
  have EF : nums .u8 (at1 (at1 (at1 (at1 (at1 (at1 (at1 f 3 (x3 % 16)) 7 (x7 % 16)) 11 (x11 % 16)) 15 (x15 % 16)) 4 (x4 / 4 * 4)) 8 (x8 / 4 * 4)) 12 (x12 / 4 * 4)) 16 = nums .u8 (clampF f) 16 := nums_congr _ fun i hi => by
    subst ex3; subst ex7; subst ex11; subst ex15; subst ex4; subst ex8; subst ex12
    have hi' : i = 0 ∨ i = 1 ∨ i = 2 ∨ i = 3 ∨ i = 4 ∨ i = 5 ∨ i = 6 ∨ i = 7 ∨ i = 8 ∨ i = 9 ∨ i = 10 ∨ i = 11 ∨ i = 12 ∨ i = 13 ∨ i = 14 ∨ i = 15 := by omega
    rcases hi' with rfl | rfl | rfl | rfl | rfl | rfl | rfl | rfl | rfl | rfl | rfl | rfl | rfl | rfl | rfl | rfl <;> simp [at1, clampF]
  rw [EF] at HX
  clear EF
  go_upto_region 11 with fail
  refine wp_region_lit ?_
  refine wpList_load_mid rfl 29 _ rfl X 0 rfl (nums .u8 (clampF f) 16) _ HX.out.cell Try.underlying29 rfl (by kernel_rfl) ?_
  refine wpList_store_mid rfl 29 _ _ rfl R 0 (nums .u8 (clampF f) 16).toArray rfl rfl HR.out.free (by kernel_rfl) (nums_all _ _ _) ?_
  change wpList _ _ _ [] _ (w7.setCells R 0 (nums .u8 (clampF f) 16))
  have HRn : Hid (Own R (nums .u8 (clampF f) 16) (w7.setCells R 0 (nums .u8 (clampF f) 16))) := Lib.hid (Own.store HR.out (by simp [nums_length]))
  have HXn : Hid (Own X (nums .u8 (clampF f) 16) (w7.setCells R 0 (nums .u8 (clampF f) 16))) := Lib.hid (Own.far (o := 0) (vs := (nums .u8 (clampF f) 16)) HX.out nXR)
  have hB0n : Below w.heap.size w (w7.setCells R 0 (nums .u8 (clampF f) 16)) := Below.setCells hB0 Rw (nums .u8 (clampF f) 16) 0
  clear HR HX hB0
  generalize (w7.setCells R 0 (nums .u8 (clampF f) 16)) = wz at *
  have HR := HRn
  clear HRn
  have HX := HXn
  clear HXn
  have hB0 := hB0n
  clear hB0n
  go_wp2_with (fail)
  have hL := run_loadVar_mid (P := Try.prog) _ R 0 29 (nums .u8 (clampF f) 16) _ HR.out.cell Try.underlying29 rfl (by kernel_rfl)
  exact bodyPost_ret (v := .agg (nums .u8 (clampF f) 16).toArray) (res_cell Try.results13 rfl hL) rfl ⟨rfl, hB0⟩

set_option maxHeartbeats 8000000 in
theorem RClamp_any (f : Nat → Int) (hf : ∀ i, i < 16 → inB (f i)) (w : World) :
    Calls Try.prog 18 #[(.agg (nums .u8 f 16).toArray)] w fun e w' => e = .returned (.agg (nums .u8 (clampF f) 16).toArray) ∧ Below w.heap.size w w' := by
  have FB := Lib.hid hf
  clear hf
  go_enter Try.func18, Try.ntmps18
  go_upto_region 1 with fail
  obtain ⟨W0, hW⟩ : ∃ W0, W0 = ((w.alloc (.cells (nums .u8 f 16).toArray 29)).alloc (.cells #[.int .u8 0, .int .u8 0, .int .u8 0, .int .u8 0, .int .u8 0, .int .u8 0, .int .u8 0, .int .u8 0, .int .u8 0, .int .u8 0, .int .u8 0, .int .u8 0, .int .u8 0, .int .u8 0, .int .u8 0, .int .u8 0] 29)) := ⟨_, rfl⟩
  have hB0 : Below w.heap.size w W0 := hW ▸ (Below.al (Below.al (Below.refl _ _)))
  have HX : Hid (Own w.heap.size (nums .u8 f 16) W0) := Lib.hid (hW ▸ (show Own w.heap.size (nums .u8 f 16) (w.alloc (.cells (nums .u8 f 16).toArray 29)) from Own.newAt (by simp)).alloc)
  have HR : Hid (Own (w.heap.size + 1) (nums .u8 (fun _ => 0) 16) W0) := Lib.hid (hW ▸ (show Own (w.heap.size + 1) (nums .u8 (fun _ => 0) 16) ((w.alloc (.cells (nums .u8 f 16).toArray 29)).alloc (.cells #[.int .u8 0, .int .u8 0, .int .u8 0, .int .u8 0, .int .u8 0, .int .u8 0, .int .u8 0, .int .u8 0, .int .u8 0, .int .u8 0, .int .u8 0, .int .u8 0, .int .u8 0, .int .u8 0, .int .u8 0, .int .u8 0] 29)) from Own.newAt (by simp)))
  rw [← hW]
  clear hW
  obtain ⟨R, eR⟩ : ∃ X, X = (w.heap.size + 1) := ⟨_, rfl⟩
  rw [← eR] at HR ⊢
  have Rw : w.heap.size ≤ R := by omega
  obtain ⟨X, eX⟩ : ∃ X, X = w.heap.size := ⟨_, rfl⟩
  rw [← eX] at HX ⊢
  have Xw : w.heap.size ≤ X := by omega
  have nXR : X ≠ R := by omega
  have nRX : R ≠ X := by omega
  clear eX eR
  go_wp2_with (fail)
  go_loopw [3] (fun iv wr => ∃ (i : Nat), i ≤ 16 ∧ iv = .int .i64 i ∧ Hid (Below w.heap.size w wr) ∧ Hid (Own X (nums .u8 (mixL (clampF f) f i) 16) wr) ∧ Hid (Own R (nums .u8 (fun _ => 0) 16) wr)) (fun iv _ => (16 - (intOf iv).toNat))
  case atStart => exact ⟨0, by omega, rfl, Lib.hid hB0, HX, HR⟩
  case round =>
    clear HX HR hB0
    obtain ⟨i, hi, rfl, HB, HX, HR⟩ := hrel
    by_cases hlt : i < 16
    · obtain ⟨m, r, hr, rfl⟩ : ∃ m r, r < 4 ∧ i = 4 * m + r := ⟨i / 4, i % 4, by omega, by omega⟩
      have x0 := HX.out.at _ _ (nums_at _ _ hlt)
      rw [mixL_at] at x0
      have xf := HX.out.ok _ (show 4 * m + r < _ by rw [nums_length]; exact hlt)
      have Xl := HX.out.lt
      have bx := FB.out _ hlt
      have hm := tmod4 (4 * m + r) r (by omega)
      have wm : IntKind.i64.wrap (r : Int) = (r : Int) := IntWalk.i64_in _ (by omega)
      have ec : clampF f (4 * m + r) = if r = 3 then f (4 * m + r) % 16 else if r = 0 ∧ 0 < m then f (4 * m + r) / 4 * 4 else f (4 * m + r) := by
        unfold clampF
        rw [show (4 * m + r) % 4 = r by omega]
        by_cases e3 : r = 3
        · rw [if_pos e3, if_pos e3]
        · rw [if_neg e3, if_neg e3]
          by_cases e0 : r = 0 ∧ 0 < m
          · rw [if_pos e0, if_pos ⟨e0.1, by omega⟩]
          · rw [if_neg e0, if_neg (by omega)]
      have ME := fun v hv => mixL_step .u8 (clampF f) f (4 * m + r) 16 v hv
      rw [ec] at ME
      obtain ⟨x, ex⟩ : ∃ x, f (4 * m + r) = x := ⟨_, rfl⟩
      rw [ex] at x0 ME bx
      have sm : nums .u8 (at1 (mixL (clampF f) f (4 * m + r)) (4 * m + r) x) 16 = nums .u8 (mixL (clampF f) f (4 * m + r)) 16 := nums_congr _ fun j _ => by
        unfold at1
        by_cases e : j = 4 * m + r
        · rw [if_pos e, e, mixL_at, ex]
        · rw [if_neg e]
      unfold inB at bx
      have i0 : (0 : Int) ≤ ((4 * m + r : Nat) : Int) := by omega
      have i1 : ((4 * m + r : Nat) : Int) < 16 := by omega
      have i63 : ((4 * m + r : Nat) : Int) + 1 ≤ 9223372036854775807 := by omega
      have wm1 : IntKind.u8.wrap (x / 4 * 4) = x / 4 * 4 := by rw [IntKind.wrap_u8']; omega
      have wm2 : IntKind.u8.wrap (x / 4) = x / 4 := by rw [IntKind.wrap_u8']; omega
      have wm3 : IntKind.u8.wrap (x % 16) = x % 16 := by rw [IntKind.wrap_u8']; omega
      have td : x.tdiv 4 = x / 4 := Int.tdiv_eq_ediv_of_nonneg bx.1
      have tm : x.tmod 16 = x % 16 := Int.tmod_eq_emod_of_nonneg bx.1
      have mi : m = 0 ∨ 0 < m := by omega
      have hr' : r = 0 ∨ r = 1 ∨ r = 2 ∨ r = 3 := by omega
      clear hr
      rcases hr' with rfl | rfl | rfl | rfl
      ·
        rcases mi with h0 | h0
        · have ng : decide (0 < 4 * m + 0) = false := decide_eq_false (by omega)
          have ml := Lib.hid (ME (x) (by simp [h0]))
          obtain ⟨i, ei⟩ : ∃ i, 4 * m + 0 = i := ⟨_, rfl⟩
          obtain ⟨t_, et⟩ : ∃ t : Int, ((0 : Nat) : Int) = t := ⟨_, rfl⟩
          rw [et] at hm wm
          have t3 : decide (t_ = 3) = false := by subst et; rfl
          have t3b : (t_ == 3) = false := by subst et; rfl
          have t0 : decide (t_ = 0) = true := by subst et; rfl
          have t0b : (t_ == 0) = true := by subst et; rfl
          clear et
          rw [ei] at x0 xf hlt hm i0 i1 i63 HX ml sm ng ⊢
          have o1 := Lib.hid (ml.out ▸ sm.symm ▸ HX.out)
          have o2 := HR
          have o3 := HB
          clear sm ME ml HX HR HB hi ec ex h0
          clear ei
          go_wp2_with (fail)
          go_roundw
          case rel => (first | exact ⟨i + 1, by omega, by go_num, o3, o1, o2⟩ | ((repeat apply Exists.intro); exact ⟨⟨i + 1, by omega, by go_num, o3, o1, o2⟩, rfl⟩))
          case measure => simp [intOf]; omega
        · have ng : decide (0 < 4 * m + 0) = true := decide_eq_true (by omega)
          have ml := Lib.hid (ME (x / 4 * 4) (by simp [h0]))
          obtain ⟨i, ei⟩ : ∃ i, 4 * m + 0 = i := ⟨_, rfl⟩
          obtain ⟨t_, et⟩ : ∃ t : Int, ((0 : Nat) : Int) = t := ⟨_, rfl⟩
          rw [et] at hm wm
          have t3 : decide (t_ = 3) = false := by subst et; rfl
          have t3b : (t_ == 3) = false := by subst et; rfl
          have t0 : decide (t_ = 0) = true := by subst et; rfl
          have t0b : (t_ == 0) = true := by subst et; rfl
          clear et
          rw [ei] at x0 xf hlt hm i0 i1 i63 HX ml sm ng ⊢
          have o1 := Lib.hid (ml.out ▸ own_set (v := x / 4 * 4) HX.out hlt)
          have o2 := Lib.hid (Own.far (c := X) (o := i) (vs := [.int .u8 (x / 4 * 4)]) HR.out nRX)
          have o3 := Lib.hid (Below.setCells HB.out Xw [.int .u8 (x / 4 * 4)] i)
          clear sm ME ml HX HR HB hi ec ex h0
          clear ei
          go_wp2_with (fail)
          go_roundw
          case rel => (first | exact ⟨i + 1, by omega, by go_num, o3, o1, o2⟩ | ((repeat apply Exists.intro); exact ⟨⟨i + 1, by omega, by go_num, o3, o1, o2⟩, rfl⟩))
          case measure => simp [intOf]; omega
      ·
        have ml := Lib.hid (ME (x) (by simp []))
        obtain ⟨i, ei⟩ : ∃ i, 4 * m + 1 = i := ⟨_, rfl⟩
        obtain ⟨t_, et⟩ : ∃ t : Int, ((1 : Nat) : Int) = t := ⟨_, rfl⟩
        rw [et] at hm wm
        have t3 : decide (t_ = 3) = false := by subst et; rfl
        have t3b : (t_ == 3) = false := by subst et; rfl
        have t0 : decide (t_ = 0) = false := by subst et; rfl
        have t0b : (t_ == 0) = false := by subst et; rfl
        clear et
        rw [ei] at x0 xf hlt hm i0 i1 i63 HX ml sm ⊢
        have o1 := Lib.hid (ml.out ▸ sm.symm ▸ HX.out)
        have o2 := HR
        have o3 := HB
        clear sm ME ml HX HR HB hi ec ex mi
        clear ei
        go_wp2_with (fail)
        go_roundw
        case rel => (first | exact ⟨i + 1, by omega, by go_num, o3, o1, o2⟩ | ((repeat apply Exists.intro); exact ⟨⟨i + 1, by omega, by go_num, o3, o1, o2⟩, rfl⟩))
        case measure => simp [intOf]; omega
      ·
        have ml := Lib.hid (ME (x) (by simp []))
        obtain ⟨i, ei⟩ : ∃ i, 4 * m + 2 = i := ⟨_, rfl⟩
        obtain ⟨t_, et⟩ : ∃ t : Int, ((2 : Nat) : Int) = t := ⟨_, rfl⟩
        rw [et] at hm wm
        have t3 : decide (t_ = 3) = false := by subst et; rfl
        have t3b : (t_ == 3) = false := by subst et; rfl
        have t0 : decide (t_ = 0) = false := by subst et; rfl
        have t0b : (t_ == 0) = false := by subst et; rfl
        clear et
        rw [ei] at x0 xf hlt hm i0 i1 i63 HX ml sm ⊢
        have o1 := Lib.hid (ml.out ▸ sm.symm ▸ HX.out)
        have o2 := HR
        have o3 := HB
        clear sm ME ml HX HR HB hi ec ex mi
        clear ei
        go_wp2_with (fail)
        go_roundw
        case rel => (first | exact ⟨i + 1, by omega, by go_num, o3, o1, o2⟩ | ((repeat apply Exists.intro); exact ⟨⟨i + 1, by omega, by go_num, o3, o1, o2⟩, rfl⟩))
        case measure => simp [intOf]; omega
      ·
        have ml := Lib.hid (ME (x % 16) (by simp []))
        obtain ⟨i, ei⟩ : ∃ i, 4 * m + 3 = i := ⟨_, rfl⟩
        obtain ⟨t_, et⟩ : ∃ t : Int, ((3 : Nat) : Int) = t := ⟨_, rfl⟩
        rw [et] at hm wm
        have t3 : decide (t_ = 3) = true := by subst et; rfl
        have t3b : (t_ == 3) = true := by subst et; rfl
        have t0 : decide (t_ = 0) = false := by subst et; rfl
        have t0b : (t_ == 0) = false := by subst et; rfl
        clear et
        rw [ei] at x0 xf hlt hm i0 i1 i63 HX ml sm ⊢
        have o1 := Lib.hid (ml.out ▸ own_set (v := x % 16) HX.out hlt)
        have o2 := Lib.hid (Own.far (c := X) (o := i) (vs := [.int .u8 (x % 16)]) HR.out nRX)
        have o3 := Lib.hid (Below.setCells HB.out Xw [.int .u8 (x % 16)] i)
        clear sm ME ml HX HR HB hi ec ex mi
        clear ei
        go_wp2_with (fail)
        go_roundw
        case rel => (first | exact ⟨i + 1, by omega, by go_num, o3, o1, o2⟩ | ((repeat apply Exists.intro); exact ⟨⟨i + 1, by omega, by go_num, o3, o1, o2⟩, rfl⟩))
        case measure => simp [intOf]; omega
    · have e4 : i = 16 := by omega
      subst e4
      rw [mixL_all] at HX
      go_upto_region 8 with fail
      have hB0 := HB.out
      refine wp_region_lit ?_
      refine wpList_load_mid rfl 29 _ rfl X 0 rfl (nums .u8 (clampF f) 16) _ HX.out.cell Try.underlying29 rfl (by kernel_rfl) ?_
      refine wpList_store_mid rfl 29 _ _ rfl R 0 (nums .u8 (clampF f) 16).toArray rfl rfl HR.out.free (by kernel_rfl) (nums_all _ _ _) ?_
      change wpList _ _ _ [] _ (wr.setCells R 0 (nums .u8 (clampF f) 16))
      have HRn : Hid (Own R (nums .u8 (clampF f) 16) (wr.setCells R 0 (nums .u8 (clampF f) 16))) := Lib.hid (Own.store HR.out (by simp [nums_length]))
      have HXn : Hid (Own X (nums .u8 (clampF f) 16) (wr.setCells R 0 (nums .u8 (clampF f) 16))) := Lib.hid (Own.far (o := 0) (vs := (nums .u8 (clampF f) 16)) HX.out nXR)
      have hB0n : Below w.heap.size w (wr.setCells R 0 (nums .u8 (clampF f) 16)) := Below.setCells hB0 Rw (nums .u8 (clampF f) 16) 0
      clear HR HX hB0
      generalize (wr.setCells R 0 (nums .u8 (clampF f) 16)) = wz at *
      have HR := HRn
      clear HRn
      have HX := HXn
      clear HXn
      have hB0 := hB0n
      clear hB0n
      go_wp2_with (fail)
      have hL := run_loadVar_mid (P := Try.prog) _ R 0 29 (nums .u8 (clampF f) 16) _ HR.out.cell Try.underlying29 rfl (by kernel_rfl)
      exact bodyPost_ret (v := .agg (nums .u8 (clampF f) 16).toArray) (res_cell Try.results18 rfl hL) rfl ⟨rfl, hB0⟩
end Go.Proofs.Ytbofihejegbfhaa
