/- The document's least. -/
import Derived.Test.YtbofihejegbfhaaNM
import Derived.Lib.Hide
namespace Go.Proofs.Ytbofihejegbfhaa
set_option linter.unusedVariables false
set_option maxRecDepth 2000
set_option linter.unusedSimpArgs false
open Go.RowKit
/-- less the prime, if it is not below it, r times -/
def lstN (M : Nat) : Nat → Nat
  | 0 => M
  | r + 1 => if PP ≤ lstN M r then lstN M r - PP else lstN M r
theorem lstN_lt (M : Nat) (h : M < TT) : ∀ r, lstN M r < TT
  | 0 => h
  | r + 1 => by
    have ih := lstN_lt M h r
    rw [lstN]
    split <;> omega
theorem lstN_two (M : Nat) (h : M < TT) : lstN M 2 = M % PP := by
  show (if PP ≤ (if PP ≤ M then M - PP else M) then (if PP ≤ M then M - PP else M) - PP else (if PP ≤ M then M - PP else M)) = M % PP
  unfold PP TT at *
  by_cases h1 : 1361129467683753853853498429727072845819 ≤ M
  · rw [if_pos h1, if_neg (by omega)]; omega
  · rw [if_neg h1, if_neg h1]; omega
theorem digs_parts (M : Nat) (h : M < TT) : ∃ d0 d1 d2 d3 d4 : Int, nums .i64 (digs M) 5 = [.int .i64 d0, .int .i64 d1, .int .i64 d2, .int .i64 d3, .int .i64 d4] ∧ (0 ≤ d0 ∧ d0 < 67108864) ∧ (0 ≤ d1 ∧ d1 < 67108864) ∧ (0 ≤ d2 ∧ d2 < 67108864) ∧ (0 ≤ d3 ∧ d3 < 67108864) ∧ (0 ≤ d4 ∧ d4 < 67108864) ∧
    (M : Int) = d0 + 67108864 * d1 + 4503599627370496 * d2 + 302231454903657293676544 * d3 + 20282409603651670423947251286016 * d4 :=
  ⟨digs M 0, digs M 1, digs M 2, digs M 3, digs M 4, rfl, digs_bd _ _, digs_bd _ _, digs_bd _ _, digs_bd _ _, digs_bd _ _, (V5_digs M h).symm⟩
theorem digs_of (M : Nat) (d0 d1 d2 d3 d4 : Int) (h0 : 0 ≤ d0 ∧ d0 < 67108864) (h1 : 0 ≤ d1 ∧ d1 < 67108864) (h2 : 0 ≤ d2 ∧ d2 < 67108864) (h3 : 0 ≤ d3 ∧ d3 < 67108864) (h4 : 0 ≤ d4 ∧ d4 < 67108864)
    (h : (M : Int) = d0 + 67108864 * d1 + 4503599627370496 * d2 + 302231454903657293676544 * d3 + 20282409603651670423947251286016 * d4) : [.int .i64 d0, .int .i64 d1, .int .i64 d2, .int .i64 d3, .int .i64 d4] = nums .i64 (digs M) 5 := by
  have e0 : digs M 0 = d0 := by unfold digs; simp only [Nat.reduceMul, Nat.reducePow]; omega
  have e1 : digs M 1 = d1 := by unfold digs; simp only [Nat.reduceMul, Nat.reducePow]; omega
  have e2 : digs M 2 = d2 := by unfold digs; simp only [Nat.reduceMul, Nat.reducePow]; omega
  have e3 : digs M 3 = d3 := by unfold digs; simp only [Nat.reduceMul, Nat.reducePow]; omega
  have e4 : digs M 4 = d4 := by unfold digs; simp only [Nat.reduceMul, Nat.reducePow]; omega
  rw [show nums .i64 (digs M) 5 = [.int .i64 (digs M 0), .int .i64 (digs M 1), .int .i64 (digs M 2), .int .i64 (digs M 3), .int .i64 (digs M 4)] from rfl, e0, e1, e2, e3, e4]

set_option maxHeartbeats 4000000 in
theorem least_any (M : Nat) (hM : M < TT) (w : World) :
    Calls Try.prog 23 #[(.agg (nums .i64 (digs M) 5).toArray)] w fun e w' => e = .returned (.agg (nums .i64 (digs (M % PP)) 5).toArray) ∧ Below w.heap.size w w' := by
  have LT := Lib.hid (lstN_lt M hM)
  have L2 := Lib.hid (lstN_two M hM)
  clear hM
  go_enter Try.func23, Try.ntmps23
  go_upto_region 1 with fail
  obtain ⟨W0, hW⟩ : ∃ W0, W0 = ((w.alloc (.cells (nums .i64 (digs M) 5).toArray 49)).alloc (.cells #[.int .i64 0, .int .i64 0, .int .i64 0, .int .i64 0, .int .i64 0] 49)) := ⟨_, rfl⟩
  have hB0 : Below w.heap.size w W0 := hW ▸ (Below.al (Below.al (Below.refl _ _)))
  have HX : Hid (Own w.heap.size (nums .i64 (digs M) 5) W0) := Lib.hid (hW ▸ (show Own w.heap.size (nums .i64 (digs M) 5) (w.alloc (.cells (nums .i64 (digs M) 5).toArray 49)) from Own.newAt (by simp)).alloc)
  have HR : Hid (Own (w.heap.size + 1) ([.int .i64 0, .int .i64 0, .int .i64 0, .int .i64 0, .int .i64 0]) W0) := Lib.hid (hW ▸ (show Own (w.heap.size + 1) ([.int .i64 0, .int .i64 0, .int .i64 0, .int .i64 0, .int .i64 0]) ((w.alloc (.cells (nums .i64 (digs M) 5).toArray 49)).alloc (.cells #[.int .i64 0, .int .i64 0, .int .i64 0, .int .i64 0, .int .i64 0] 49)) from Own.newAt (by simp)))
  rw [← hW]
  clear hW
  obtain ⟨R, eR⟩ : ∃ X, X = (w.heap.size + 1) := ⟨_, rfl⟩
  rw [← eR] at HR ⊢
  have Rw : w.heap.size ≤ R := by omega
  obtain ⟨X, eX⟩ : ∃ X, X = w.heap.size := ⟨_, rfl⟩
  rw [← eX] at HX ⊢
  have Xw : w.heap.size ≤ X := by omega
  have nXR : X ≠ R := by omega
  have nRX : R ≠ X := by omega
  clear eX eR
  go_wp2_with (fail)
  go_loopw [3] (fun rv wr => ∃ (r_ : Nat), r_ ≤ 2 ∧ rv = .int .i64 r_ ∧ Hid (Below w.heap.size w wr) ∧ Hid (Own X (nums .i64 (digs (lstN M r_)) 5) wr) ∧ Hid (Own R ([.int .i64 0, .int .i64 0, .int .i64 0, .int .i64 0, .int .i64 0]) wr)) (fun rv _ => (2 - (intOf rv).toNat))
  case atStart => exact ⟨0, by decide, rfl, Lib.hid hB0, HX, HR⟩
  case round =>
    clear HX HR hB0
    obtain ⟨r_, hr, rfl, HB, HX, HR⟩ := hrel
    by_cases hlt : r_ < 2
    · have r2 : (r_ : Int) < 2 := by omega
      have wr1 : IntKind.i64.wrap ((r_ : Int) + 1) = (r_ : Int) + 1 := IntWalk.i64_in _ (by omega)
      have HLT := Lib.hid hlt
      have lm := LT.out r_
      have NX := Lib.hid (show lstN M (r_ + 1) = if PP ≤ lstN M r_ then lstN M r_ - PP else lstN M r_ from rfl)
      obtain ⟨m_, em⟩ : ∃ m, lstN M r_ = m := ⟨_, rfl⟩
      rw [em] at HX lm NX
      obtain ⟨d0, d1, d2, d3, d4, eD, b0, b1, b2, b3, b4, eV⟩ := digs_parts m_ lm
      rw [eD] at HX
      obtain ⟨x0, f0⟩ : ∃ z, d0 + 5 = z := ⟨_, rfl⟩
      have wx0 : IntKind.i64.wrap x0 = x0 := IntWalk.i64_in _ (by omega)
      obtain ⟨c0, g0⟩ : ∃ z, x0 / 67108864 = z := ⟨_, rfl⟩
      obtain ⟨k0, i0⟩ : ∃ z, c0 * 67108864 = z := ⟨_, rfl⟩
      have wk0 : IntKind.i64.wrap k0 = k0 := IntWalk.i64_in _ (by omega)
      obtain ⟨h0, j0⟩ : ∃ z, x0 - k0 = z := ⟨_, rfl⟩
      have wh0 : IntKind.i64.wrap h0 = h0 := IntWalk.i64_in _ (by omega)
      obtain ⟨x1, f1⟩ : ∃ z, d1 + c0 = z := ⟨_, rfl⟩
      have wx1 : IntKind.i64.wrap x1 = x1 := IntWalk.i64_in _ (by omega)
      obtain ⟨c1, g1⟩ : ∃ z, x1 / 67108864 = z := ⟨_, rfl⟩
      obtain ⟨k1, i1⟩ : ∃ z, c1 * 67108864 = z := ⟨_, rfl⟩
      have wk1 : IntKind.i64.wrap k1 = k1 := IntWalk.i64_in _ (by omega)
      obtain ⟨h1, j1⟩ : ∃ z, x1 - k1 = z := ⟨_, rfl⟩
      have wh1 : IntKind.i64.wrap h1 = h1 := IntWalk.i64_in _ (by omega)
      obtain ⟨x2, f2⟩ : ∃ z, d2 + c1 = z := ⟨_, rfl⟩
      have wx2 : IntKind.i64.wrap x2 = x2 := IntWalk.i64_in _ (by omega)
      obtain ⟨c2, g2⟩ : ∃ z, x2 / 67108864 = z := ⟨_, rfl⟩
      obtain ⟨k2, i2⟩ : ∃ z, c2 * 67108864 = z := ⟨_, rfl⟩
      have wk2 : IntKind.i64.wrap k2 = k2 := IntWalk.i64_in _ (by omega)
      obtain ⟨h2, j2⟩ : ∃ z, x2 - k2 = z := ⟨_, rfl⟩
      have wh2 : IntKind.i64.wrap h2 = h2 := IntWalk.i64_in _ (by omega)
      obtain ⟨x3, f3⟩ : ∃ z, d3 + c2 = z := ⟨_, rfl⟩
      have wx3 : IntKind.i64.wrap x3 = x3 := IntWalk.i64_in _ (by omega)
      obtain ⟨c3, g3⟩ : ∃ z, x3 / 67108864 = z := ⟨_, rfl⟩
      obtain ⟨k3, i3⟩ : ∃ z, c3 * 67108864 = z := ⟨_, rfl⟩
      have wk3 : IntKind.i64.wrap k3 = k3 := IntWalk.i64_in _ (by omega)
      obtain ⟨h3, j3⟩ : ∃ z, x3 - k3 = z := ⟨_, rfl⟩
      have wh3 : IntKind.i64.wrap h3 = h3 := IntWalk.i64_in _ (by omega)
      obtain ⟨x4, f4⟩ : ∃ z, d4 + c3 = z := ⟨_, rfl⟩
      have wx4 : IntKind.i64.wrap x4 = x4 := IntWalk.i64_in _ (by omega)
      obtain ⟨y4, f5⟩ : ∃ z, x4 - 67108864 = z := ⟨_, rfl⟩
      have wy4 : IntKind.i64.wrap y4 = y4 := IntWalk.i64_in _ (by omega)
      have EY : 67108864 ≤ x4 → Hid ([.int .i64 h0, .int .i64 h1, .int .i64 h2, .int .i64 h3, .int .i64 y4] = nums .i64 (digs (lstN M (r_ + 1))) 5) := fun h => Lib.hid (by
        rw [NX.out, if_pos (by unfold PP TT at *; omega)]
        exact digs_of _ _ _ _ _ _ (by omega) (by omega) (by omega) (by omega) (by unfold TT at lm; omega) (by unfold PP at *; omega))
      have EN : ¬ 67108864 ≤ x4 → Hid ([.int .i64 d0, .int .i64 d1, .int .i64 d2, .int .i64 d3, .int .i64 d4] = nums .i64 (digs (lstN M (r_ + 1))) 5) := fun h => Lib.hid (by
        rw [NX.out, if_neg (by unfold PP TT at *; omega)]
        exact digs_of _ _ _ _ _ _ b0 b1 b2 b3 b4 eV)
      have SP : 67108864 ≤ x4 ∨ ¬ 67108864 ≤ x4 := by omega
      clear eD b0 b1 b2 b3 b4 eV lm em NX hr hlt
      have hB0 := HB.out
      clear HB
      have oX := HX.out
      have X0 := oX.at 0 _ rfl
      have X1 := oX.at 1 _ rfl
      have X2 := oX.at 2 _ rfl
      have X3 := oX.at 3 _ rfl
      have X4 := oX.at 4 _ rfl
      have Xl := oX.lt
      clear oX
      go_upto_region 5 with fail
      clear X0 X1 X2 X3 X4 Xl
      obtain ⟨e0, hW⟩ : ∃ e0, e0 = (wr.alloc (.cells #[.int .i64 d0, .int .i64 d1, .int .i64 d2, .int .i64 d3, .int .i64 d4] 49)) := ⟨_, rfl⟩
      have hBx : Below wr.heap.size wr e0 := hW ▸ (Below.al (Below.refl _ _))
      have HE : Hid (Own wr.heap.size ([.int .i64 d0, .int .i64 d1, .int .i64 d2, .int .i64 d3, .int .i64 d4]) e0) := Lib.hid (hW ▸ (show Own wr.heap.size ([.int .i64 d0, .int .i64 d1, .int .i64 d2, .int .i64 d3, .int .i64 d4]) (wr.alloc (.cells #[.int .i64 d0, .int .i64 d1, .int .i64 d2, .int .i64 d3, .int .i64 d4] 49)) from Own.newAt (by simp)))
      rw [← hW]
      clear hW
      obtain ⟨E_, eE_⟩ : ∃ X, X = wr.heap.size := ⟨_, rfl⟩
      rw [← eE_] at HE ⊢
      have E_w : wr.heap.size ≤ E_ := by omega
      clear eE_
      have nE_X : E_ ≠ X := by have := HX.out.lt; omega
      have nXE_ : X ≠ E_ := Ne.symm nE_X
      have nE_R : E_ ≠ R := by have := HR.out.lt; omega
      have nRE_ : R ≠ E_ := Ne.symm nE_R
      have E_w2 : w.heap.size ≤ E_ := by have := hB0.size; omega
      clear E_w
      have E_w := E_w2
      clear E_w2
      have HXk := Lib.hid (HX.out.later hBx)
      have HRk := Lib.hid (HR.out.later hBx)
      clear HX HR
      have HX := HXk
      clear HXk
      have HR := HRk
      clear HRk
      have hB0n := Below.go hB0 hBx
      clear hB0 hBx
      have hB0 := hB0n
      clear hB0n
      have oE := HE.out
      have E0 := oE.at 0 _ rfl
      have Ef0 := oE.ok 0 (by simp)
      have El := oE.lt
      clear oE
      go_upto_region 6 with fail
      clear E0 Ef0 El
      rw [show (e0.setCell ⟨E_, 0, none⟩ (.int .i64 x0)) = e0.setCells E_ 0 [.int .i64 x0] from rfl]
      have HEn : Hid (Own E_ ([.int .i64 x0, .int .i64 d1, .int .i64 d2, .int .i64 d3, .int .i64 d4]) (e0.setCells E_ 0 [.int .i64 x0])) := Lib.hid (show Own E_ (over _ 0 [.int .i64 x0]) _ from Own.part HE.out (by simp))
      have HXn : Hid (Own X ([.int .i64 d0, .int .i64 d1, .int .i64 d2, .int .i64 d3, .int .i64 d4]) (e0.setCells E_ 0 [.int .i64 x0])) := Lib.hid (Own.far (o := 0) (vs := [.int .i64 x0]) HX.out nXE_)
      have HRn : Hid (Own R ([.int .i64 0, .int .i64 0, .int .i64 0, .int .i64 0, .int .i64 0]) (e0.setCells E_ 0 [.int .i64 x0])) := Lib.hid (Own.far (o := 0) (vs := [.int .i64 x0]) HR.out nRE_)
      have hB0n : Below w.heap.size w (e0.setCells E_ 0 [.int .i64 x0]) := Below.setCells hB0 E_w [.int .i64 x0] 0
      clear HE HX HR hB0
      generalize (e0.setCells E_ 0 [.int .i64 x0]) = e1 at *
      have HE := HEn
      clear HEn
      have HX := HXn
      clear HXn
      have HR := HRn
      clear HRn
      have hB0 := hB0n
      clear hB0n
      go_wp2_with (fail)
      refine wp_loop_rounds 5 ?_
      rw [rounds_succ]
      have oE := HE.out
      have E0 := oE.at 0 _ rfl
      have Ef0 := oE.ok 0 (by simp)
      have El := oE.lt
      clear oE
      go_upto_region 11 with fail
      clear E0 Ef0 El
      rw [show (e1.setCell ⟨E_, 0, none⟩ (.int .i64 h0)) = e1.setCells E_ 0 [.int .i64 h0] from rfl]
      have HEn : Hid (Own E_ ([.int .i64 h0, .int .i64 d1, .int .i64 d2, .int .i64 d3, .int .i64 d4]) (e1.setCells E_ 0 [.int .i64 h0])) := Lib.hid (show Own E_ (over _ 0 [.int .i64 h0]) _ from Own.part HE.out (by simp))
      have HXn : Hid (Own X ([.int .i64 d0, .int .i64 d1, .int .i64 d2, .int .i64 d3, .int .i64 d4]) (e1.setCells E_ 0 [.int .i64 h0])) := Lib.hid (Own.far (o := 0) (vs := [.int .i64 h0]) HX.out nXE_)
      have HRn : Hid (Own R ([.int .i64 0, .int .i64 0, .int .i64 0, .int .i64 0, .int .i64 0]) (e1.setCells E_ 0 [.int .i64 h0])) := Lib.hid (Own.far (o := 0) (vs := [.int .i64 h0]) HR.out nRE_)
      have hB0n : Below w.heap.size w (e1.setCells E_ 0 [.int .i64 h0]) := Below.setCells hB0 E_w [.int .i64 h0] 0
      clear HE HX HR hB0
      generalize (e1.setCells E_ 0 [.int .i64 h0]) = e2 at *
      have HE := HEn
      clear HEn
      have HX := HXn
      clear HXn
      have HR := HRn
      clear HRn
      have hB0 := hB0n
      clear hB0n
      have oE := HE.out
      have E1 := oE.at 1 _ rfl
      have Ef1 := oE.ok 1 (by simp)
      have El := oE.lt
      clear oE
      go_wp2_with (fail)
      clear E1 Ef1 El
      rw [show (e2.setCell ⟨E_, 1, none⟩ (.int .i64 x1)) = e2.setCells E_ 1 [.int .i64 x1] from rfl]
      have HEn : Hid (Own E_ ([.int .i64 h0, .int .i64 x1, .int .i64 d2, .int .i64 d3, .int .i64 d4]) (e2.setCells E_ 1 [.int .i64 x1])) := Lib.hid (show Own E_ (over _ 1 [.int .i64 x1]) _ from Own.part HE.out (by simp))
      have HXn : Hid (Own X ([.int .i64 d0, .int .i64 d1, .int .i64 d2, .int .i64 d3, .int .i64 d4]) (e2.setCells E_ 1 [.int .i64 x1])) := Lib.hid (Own.far (o := 1) (vs := [.int .i64 x1]) HX.out nXE_)
      have HRn : Hid (Own R ([.int .i64 0, .int .i64 0, .int .i64 0, .int .i64 0, .int .i64 0]) (e2.setCells E_ 1 [.int .i64 x1])) := Lib.hid (Own.far (o := 1) (vs := [.int .i64 x1]) HR.out nRE_)
      have hB0n : Below w.heap.size w (e2.setCells E_ 1 [.int .i64 x1]) := Below.setCells hB0 E_w [.int .i64 x1] 1
      clear HE HX HR hB0
      generalize (e2.setCells E_ 1 [.int .i64 x1]) = e3 at *
      have HE := HEn
      clear HEn
      have HX := HXn
      clear HXn
      have HR := HRn
      clear HRn
      have hB0 := hB0n
      clear hB0n
      rw [rounds_succ]
      have oE := HE.out
      have E1 := oE.at 1 _ rfl
      have Ef1 := oE.ok 1 (by simp)
      have El := oE.lt
      clear oE
      go_upto_region 11 with fail
      clear E1 Ef1 El
      rw [show (e3.setCell ⟨E_, 1, none⟩ (.int .i64 h1)) = e3.setCells E_ 1 [.int .i64 h1] from rfl]
      have HEn : Hid (Own E_ ([.int .i64 h0, .int .i64 h1, .int .i64 d2, .int .i64 d3, .int .i64 d4]) (e3.setCells E_ 1 [.int .i64 h1])) := Lib.hid (show Own E_ (over _ 1 [.int .i64 h1]) _ from Own.part HE.out (by simp))
      have HXn : Hid (Own X ([.int .i64 d0, .int .i64 d1, .int .i64 d2, .int .i64 d3, .int .i64 d4]) (e3.setCells E_ 1 [.int .i64 h1])) := Lib.hid (Own.far (o := 1) (vs := [.int .i64 h1]) HX.out nXE_)
      have HRn : Hid (Own R ([.int .i64 0, .int .i64 0, .int .i64 0, .int .i64 0, .int .i64 0]) (e3.setCells E_ 1 [.int .i64 h1])) := Lib.hid (Own.far (o := 1) (vs := [.int .i64 h1]) HR.out nRE_)
      have hB0n : Below w.heap.size w (e3.setCells E_ 1 [.int .i64 h1]) := Below.setCells hB0 E_w [.int .i64 h1] 1
      clear HE HX HR hB0
      generalize (e3.setCells E_ 1 [.int .i64 h1]) = e4 at *
      have HE := HEn
      clear HEn
      have HX := HXn
      clear HXn
      have HR := HRn
      clear HRn
      have hB0 := hB0n
      clear hB0n
      have oE := HE.out
      have E2 := oE.at 2 _ rfl
      have Ef2 := oE.ok 2 (by simp)
      have El := oE.lt
      clear oE
      go_wp2_with (fail)
      clear E2 Ef2 El
      rw [show (e4.setCell ⟨E_, 2, none⟩ (.int .i64 x2)) = e4.setCells E_ 2 [.int .i64 x2] from rfl]
      have HEn : Hid (Own E_ ([.int .i64 h0, .int .i64 h1, .int .i64 x2, .int .i64 d3, .int .i64 d4]) (e4.setCells E_ 2 [.int .i64 x2])) := Lib.hid (show Own E_ (over _ 2 [.int .i64 x2]) _ from Own.part HE.out (by simp))
      have HXn : Hid (Own X ([.int .i64 d0, .int .i64 d1, .int .i64 d2, .int .i64 d3, .int .i64 d4]) (e4.setCells E_ 2 [.int .i64 x2])) := Lib.hid (Own.far (o := 2) (vs := [.int .i64 x2]) HX.out nXE_)
      have HRn : Hid (Own R ([.int .i64 0, .int .i64 0, .int .i64 0, .int .i64 0, .int .i64 0]) (e4.setCells E_ 2 [.int .i64 x2])) := Lib.hid (Own.far (o := 2) (vs := [.int .i64 x2]) HR.out nRE_)
      have hB0n : Below w.heap.size w (e4.setCells E_ 2 [.int .i64 x2]) := Below.setCells hB0 E_w [.int .i64 x2] 2
      clear HE HX HR hB0
      generalize (e4.setCells E_ 2 [.int .i64 x2]) = e5 at *
      have HE := HEn
      clear HEn
      have HX := HXn
      clear HXn
      have HR := HRn
      clear HRn
      have hB0 := hB0n
      clear hB0n
      rw [rounds_succ]
      have oE := HE.out
      have E2 := oE.at 2 _ rfl
      have Ef2 := oE.ok 2 (by simp)
      have El := oE.lt
      clear oE
      go_upto_region 11 with fail
      clear E2 Ef2 El
      rw [show (e5.setCell ⟨E_, 2, none⟩ (.int .i64 h2)) = e5.setCells E_ 2 [.int .i64 h2] from rfl]
      have HEn : Hid (Own E_ ([.int .i64 h0, .int .i64 h1, .int .i64 h2, .int .i64 d3, .int .i64 d4]) (e5.setCells E_ 2 [.int .i64 h2])) := Lib.hid (show Own E_ (over _ 2 [.int .i64 h2]) _ from Own.part HE.out (by simp))
      have HXn : Hid (Own X ([.int .i64 d0, .int .i64 d1, .int .i64 d2, .int .i64 d3, .int .i64 d4]) (e5.setCells E_ 2 [.int .i64 h2])) := Lib.hid (Own.far (o := 2) (vs := [.int .i64 h2]) HX.out nXE_)
      have HRn : Hid (Own R ([.int .i64 0, .int .i64 0, .int .i64 0, .int .i64 0, .int .i64 0]) (e5.setCells E_ 2 [.int .i64 h2])) := Lib.hid (Own.far (o := 2) (vs := [.int .i64 h2]) HR.out nRE_)
      have hB0n : Below w.heap.size w (e5.setCells E_ 2 [.int .i64 h2]) := Below.setCells hB0 E_w [.int .i64 h2] 2
      clear HE HX HR hB0
      generalize (e5.setCells E_ 2 [.int .i64 h2]) = e6 at *
      have HE := HEn
      clear HEn
      have HX := HXn
      clear HXn
      have HR := HRn
      clear HRn
      have hB0 := hB0n
      clear hB0n
      have oE := HE.out
      have E3 := oE.at 3 _ rfl
      have Ef3 := oE.ok 3 (by simp)
      have El := oE.lt
      clear oE
      go_wp2_with (fail)
      clear E3 Ef3 El
      rw [show (e6.setCell ⟨E_, 3, none⟩ (.int .i64 x3)) = e6.setCells E_ 3 [.int .i64 x3] from rfl]
      have HEn : Hid (Own E_ ([.int .i64 h0, .int .i64 h1, .int .i64 h2, .int .i64 x3, .int .i64 d4]) (e6.setCells E_ 3 [.int .i64 x3])) := Lib.hid (show Own E_ (over _ 3 [.int .i64 x3]) _ from Own.part HE.out (by simp))
      have HXn : Hid (Own X ([.int .i64 d0, .int .i64 d1, .int .i64 d2, .int .i64 d3, .int .i64 d4]) (e6.setCells E_ 3 [.int .i64 x3])) := Lib.hid (Own.far (o := 3) (vs := [.int .i64 x3]) HX.out nXE_)
      have HRn : Hid (Own R ([.int .i64 0, .int .i64 0, .int .i64 0, .int .i64 0, .int .i64 0]) (e6.setCells E_ 3 [.int .i64 x3])) := Lib.hid (Own.far (o := 3) (vs := [.int .i64 x3]) HR.out nRE_)
      have hB0n : Below w.heap.size w (e6.setCells E_ 3 [.int .i64 x3]) := Below.setCells hB0 E_w [.int .i64 x3] 3
      clear HE HX HR hB0
      generalize (e6.setCells E_ 3 [.int .i64 x3]) = e7 at *
      have HE := HEn
      clear HEn
      have HX := HXn
      clear HXn
      have HR := HRn
      clear HRn
      have hB0 := hB0n
      clear hB0n
      rw [rounds_succ]
      have oE := HE.out
      have E3 := oE.at 3 _ rfl
      have Ef3 := oE.ok 3 (by simp)
      have El := oE.lt
      clear oE
      go_upto_region 11 with fail
      clear E3 Ef3 El
      rw [show (e7.setCell ⟨E_, 3, none⟩ (.int .i64 h3)) = e7.setCells E_ 3 [.int .i64 h3] from rfl]
      have HEn : Hid (Own E_ ([.int .i64 h0, .int .i64 h1, .int .i64 h2, .int .i64 h3, .int .i64 d4]) (e7.setCells E_ 3 [.int .i64 h3])) := Lib.hid (show Own E_ (over _ 3 [.int .i64 h3]) _ from Own.part HE.out (by simp))
      have HXn : Hid (Own X ([.int .i64 d0, .int .i64 d1, .int .i64 d2, .int .i64 d3, .int .i64 d4]) (e7.setCells E_ 3 [.int .i64 h3])) := Lib.hid (Own.far (o := 3) (vs := [.int .i64 h3]) HX.out nXE_)
      have HRn : Hid (Own R ([.int .i64 0, .int .i64 0, .int .i64 0, .int .i64 0, .int .i64 0]) (e7.setCells E_ 3 [.int .i64 h3])) := Lib.hid (Own.far (o := 3) (vs := [.int .i64 h3]) HR.out nRE_)
      have hB0n : Below w.heap.size w (e7.setCells E_ 3 [.int .i64 h3]) := Below.setCells hB0 E_w [.int .i64 h3] 3
      clear HE HX HR hB0
      generalize (e7.setCells E_ 3 [.int .i64 h3]) = e8 at *
      have HE := HEn
      clear HEn
      have HX := HXn
      clear HXn
      have HR := HRn
      clear HRn
      have hB0 := hB0n
      clear hB0n
      have oE := HE.out
      have E4 := oE.at 4 _ rfl
      have Ef4 := oE.ok 4 (by simp)
      have El := oE.lt
      clear oE
      go_wp2_with (fail)
      clear E4 Ef4 El
      rw [show (e8.setCell ⟨E_, 4, none⟩ (.int .i64 x4)) = e8.setCells E_ 4 [.int .i64 x4] from rfl]
      have HEn : Hid (Own E_ ([.int .i64 h0, .int .i64 h1, .int .i64 h2, .int .i64 h3, .int .i64 x4]) (e8.setCells E_ 4 [.int .i64 x4])) := Lib.hid (show Own E_ (over _ 4 [.int .i64 x4]) _ from Own.part HE.out (by simp))
      have HXn : Hid (Own X ([.int .i64 d0, .int .i64 d1, .int .i64 d2, .int .i64 d3, .int .i64 d4]) (e8.setCells E_ 4 [.int .i64 x4])) := Lib.hid (Own.far (o := 4) (vs := [.int .i64 x4]) HX.out nXE_)
      have HRn : Hid (Own R ([.int .i64 0, .int .i64 0, .int .i64 0, .int .i64 0, .int .i64 0]) (e8.setCells E_ 4 [.int .i64 x4])) := Lib.hid (Own.far (o := 4) (vs := [.int .i64 x4]) HR.out nRE_)
      have hB0n : Below w.heap.size w (e8.setCells E_ 4 [.int .i64 x4]) := Below.setCells hB0 E_w [.int .i64 x4] 4
      clear HE HX HR hB0
      generalize (e8.setCells E_ 4 [.int .i64 x4]) = e9 at *
      have HE := HEn
      clear HEn
      have HX := HXn
      clear HXn
      have HR := HRn
      clear HRn
      have hB0 := hB0n
      clear hB0n
      rw [rounds_succ]
      have oE := HE.out
      have E4 := oE.at 4 _ rfl
      have Ef4 := oE.ok 4 (by simp)
      have El := oE.lt
      clear oE
      rcases SP with ge | lt
      · have EYn := EY (by omega)
        clear EY EN
        go_upto_region 14 with fail
        clear E4 Ef4 El
        rw [show (e9.setCell ⟨E_, 4, none⟩ (.int .i64 y4)) = e9.setCells E_ 4 [.int .i64 y4] from rfl]
        have HEn : Hid (Own E_ ([.int .i64 h0, .int .i64 h1, .int .i64 h2, .int .i64 h3, .int .i64 y4]) (e9.setCells E_ 4 [.int .i64 y4])) := Lib.hid (show Own E_ (over _ 4 [.int .i64 y4]) _ from Own.part HE.out (by simp))
        have HXn : Hid (Own X ([.int .i64 d0, .int .i64 d1, .int .i64 d2, .int .i64 d3, .int .i64 d4]) (e9.setCells E_ 4 [.int .i64 y4])) := Lib.hid (Own.far (o := 4) (vs := [.int .i64 y4]) HX.out nXE_)
        have HRn : Hid (Own R ([.int .i64 0, .int .i64 0, .int .i64 0, .int .i64 0, .int .i64 0]) (e9.setCells E_ 4 [.int .i64 y4])) := Lib.hid (Own.far (o := 4) (vs := [.int .i64 y4]) HR.out nRE_)
        have hB0n : Below w.heap.size w (e9.setCells E_ 4 [.int .i64 y4]) := Below.setCells hB0 E_w [.int .i64 y4] 4
        clear HE HX HR hB0
        generalize (e9.setCells E_ 4 [.int .i64 y4]) = e10 at *
        have HE := HEn
        clear HEn
        have HX := HXn
        clear HXn
        have HR := HRn
        clear HRn
        have hB0 := hB0n
        clear hB0n
        have oE_ := HE.out
        have E_0 := oE_.at 0 _ rfl
        have E_1 := oE_.at 1 _ rfl
        have E_2 := oE_.at 2 _ rfl
        have E_3 := oE_.at 3 _ rfl
        have E_4 := oE_.at 4 _ rfl
        have E_l := oE_.lt
        clear oE_
        have oX := HX.out
        have X0 := oX.at 0 _ rfl
        have Xf0 := oX.ok 0 (by simp)
        have X1 := oX.at 1 _ rfl
        have Xf1 := oX.ok 1 (by simp)
        have X2 := oX.at 2 _ rfl
        have Xf2 := oX.ok 2 (by simp)
        have X3 := oX.at 3 _ rfl
        have Xf3 := oX.ok 3 (by simp)
        have X4 := oX.at 4 _ rfl
        have Xf4 := oX.ok 4 (by simp)
        have Xl := oX.lt
        clear oX
        have O1 := Lib.hid (Own.store (vs := [.int .i64 h0, .int .i64 h1, .int .i64 h2, .int .i64 h3, .int .i64 y4]) HX.out rfl)
        rw [EYn.out] at O1
        have O2 := Lib.hid (Own.far (o := 0) (vs := [.int .i64 h0, .int .i64 h1, .int .i64 h2, .int .i64 h3, .int .i64 y4]) HR.out nRX)
        have O3 := Lib.hid (Below.setCells hB0 Xw [.int .i64 h0, .int .i64 h1, .int .i64 h2, .int .i64 h3, .int .i64 y4] 0)
        rw [EYn.out] at O2 O3
        have O4 := EYn
        clear HX HE HR hB0
        go_wp2_with (fail)
        rw [show (((((e10.setCell ⟨X, 0, none⟩ (.int .i64 h0)).setCell ⟨X, 1, none⟩ (.int .i64 h1)).setCell ⟨X, 2, none⟩ (.int .i64 h2)).setCell ⟨X, 3, none⟩ (.int .i64 h3)).setCell ⟨X, 4, none⟩ (.int .i64 y4)) = e10.setCells X 0 [.int .i64 h0, .int .i64 h1, .int .i64 h2, .int .i64 h3, .int .i64 y4] from rfl]
        rw [EYn.out]
        go_roundw
        case rel => (first | exact ⟨r_ + 1, HLT.out, by go_num, O3, O1, O2⟩ | ((repeat apply Exists.intro); exact ⟨⟨r_ + 1, HLT.out, by go_num, O3, O1, O2⟩, rfl⟩))
        case measure => (have := HLT.out; simp [intOf]; omega)
      · have ENn := EN (by omega)
        have lt2 : decide ((67108864 : Int) ≤ x4) = false := decide_eq_false (by omega)
        have O1 := Lib.hid (ENn.out ▸ HX.out)
        have O3 := Lib.hid hB0
        clear EY EN lt ENn HX hB0
        go_wp2_with (fail)
        go_roundw
        case rel => (first | exact ⟨r_ + 1, HLT.out, by go_num, O3, O1, HR⟩ | ((repeat apply Exists.intro); exact ⟨⟨r_ + 1, HLT.out, by go_num, O3, O1, HR⟩, rfl⟩))
        case measure => (have := HLT.out; simp [intOf]; omega)
    · have e2 : r_ = 2 := by omega
      subst e2
      rw [L2.out] at HX
      have HR2 : Hid (Own R (nums .i64 (fun _ => 0) 5) wr) := HR
      clear HR
      have HR := HR2
      clear HR2
      go_upto_region 15 with fail
      have hB0 := HB.out
      refine wp_region_lit ?_
      refine wpList_load_mid rfl 49 _ rfl X 0 rfl (nums .i64 (digs (M % PP)) 5) _ HX.out.cell Try.underlying49 rfl (by kernel_rfl) ?_
      refine wpList_store_mid rfl 49 _ _ rfl R 0 (nums .i64 (digs (M % PP)) 5).toArray rfl rfl HR.out.free (by kernel_rfl) (nums_all _ _ _) ?_
      change wpList _ _ _ [] _ (wr.setCells R 0 (nums .i64 (digs (M % PP)) 5))
      have HRn : Hid (Own R (nums .i64 (digs (M % PP)) 5) (wr.setCells R 0 (nums .i64 (digs (M % PP)) 5))) := Lib.hid (Own.store HR.out (by simp [nums_length]))
      have HXn : Hid (Own X (nums .i64 (digs (M % PP)) 5) (wr.setCells R 0 (nums .i64 (digs (M % PP)) 5))) := Lib.hid (Own.far (o := 0) (vs := (nums .i64 (digs (M % PP)) 5)) HX.out nXR)
      have hB0n : Below w.heap.size w (wr.setCells R 0 (nums .i64 (digs (M % PP)) 5)) := Below.setCells hB0 Rw (nums .i64 (digs (M % PP)) 5) 0
      clear HR HX hB0
      generalize (wr.setCells R 0 (nums .i64 (digs (M % PP)) 5)) = wz at *
      have HR := HRn
      clear HRn
      have HX := HXn
      clear HXn
      have hB0 := hB0n
      clear hB0n
      go_wp2_with (fail)
      have hL := run_loadVar_mid (P := Try.prog) _ R 0 49 (nums .i64 (digs (M % PP)) 5) _ HR.out.cell Try.underlying49 rfl (by kernel_rfl)
      exact bodyPost_ret (v := .agg (nums .i64 (digs (M % PP)) 5).toArray) (res_cell Try.results23 rfl hL) rfl ⟨rfl, hB0⟩
end Go.Proofs.Ytbofihejegbfhaa
