/- umbralaw05.OctaNear: the walk. -/
import Derived.Test.YtgggngcgcpmkbaaOK
import Derived.Deep.DeepCutAuto
import Derived.Deep.RegionHeld3
import Derived.LoopN
namespace Go.Proofs.Ytgggngcgcpmkbaa
set_option linter.unusedVariables false
set_option maxRecDepth 2000
set_option linter.unusedSimpArgs false
open Go.RowKit
attribute [local go_sem] setCell_twice setCell_pair
attribute [local go_sem ↓] eqPt neqPt

set_option maxHeartbeats 4000000 in
theorem Near_no (x y z : Int) (w : World)
    (en : Hid (∀ w, Calls Try.prog 20 #[(.agg #[.int .i64 x, .int .i64 y, .int .i64 z])] w fun e w' => e = .returned (.tuple #[.int .u32 0, .int .i64 2]) ∧ Below w.heap.size w w')) (my : Hid (∀ w, Calls Try.prog 22 #[(.agg #[.int .i64 x, .int .i64 y, .int .i64 z])] w fun e w' => e = .returned (.bool false) ∧ Below w.heap.size w w')) (wk : Hid (∀ w, Calls Try.prog 19 #[] w fun e w' => e = .returned (.bool true) ∧ Below w.heap.size w w')) :
    Calls Try.prog 7 #[(.agg #[.int .i64 x, .int .i64 y, .int .i64 z])] w fun e w' => e = .returned (.bool true) ∧ Below w.heap.size w w' := by
  go_enter Try.func7, Try.ntmps7
  go_wp2_with (fail)
  obtain ⟨W0, hW⟩ : ∃ W0, W0 = (w.alloc (.cells #[.int .i64 x, .int .i64 y, .int .i64 z] 24)) := ⟨_, rfl⟩
  have hB0 : Below w.heap.size w W0 := hW ▸ (Below.al (Below.refl _ _))
  have HD : Hid (Own w.heap.size [.int .i64 x, .int .i64 y, .int .i64 z] W0) := Lib.hid (hW ▸ (Own.newAt (by simp)))
  rw [← hW]
  clear hW
  obtain ⟨D, eD⟩ : ∃ X, X = w.heap.size := ⟨_, rfl⟩
  rw [← eD] at HD ⊢
  have Dw : w.heap.size ≤ D := by omega
  clear eD
  go_at_call 20; refine (en.out _).mono ?_; rintro e w1 ⟨rfl, hb⟩
  replace HD := Lib.hid (HD.out.later hb)
  have hB1 := Below.go hB0 hb
  clear hb hB0
  have oD := HD.out
  have D0 := oD.at 0 _ rfl
  have D1 := oD.at 1 _ rfl
  have D2 := oD.at 2 _ rfl
  have Dl := oD.lt
  clear oD
  go_wp2_with (fail)
  clear D0 D1 D2 Dl
  go_at_call 22; refine (my.out _).mono ?_; rintro e w2 ⟨rfl, hb⟩
  replace HD := Lib.hid (HD.out.later hb)
  have hB2 := Below.go hB1 hb
  clear hb hB1
  go_wp2_with (fail)
  go_at_call 19; refine (wk.out _).mono ?_; rintro e w3 ⟨rfl, hb⟩
  replace HD := Lib.hid (HD.out.later hb)
  have hB3 := Below.go hB2 hb
  clear hb hB2
  go_wp2
  go_ret
  exact ⟨rfl, hB3⟩

set_option maxHeartbeats 16000000 in
theorem Near_yes (x y z A B E c X Y Z k0 k1 k2 K0 K1 K2 : Int) (bA : 0 ≤ A ∧ A ≤ 16384) (bB : 0 ≤ B ∧ B ≤ 16384) (bE : 0 ≤ E ∧ E ≤ 16384)
    (h0 : wrap64 (wrap64 (X * (A + B + E)) - wrap64 (x * 16384)) = k0) (h1 : wrap64 (wrap64 (Y * (A + B + E)) - wrap64 (y * 16384)) = k1) (h2 : wrap64 (wrap64 (Z * (A + B + E)) - wrap64 (z * 16384)) = k2)
    (n0 : K0 ≤ 2 * (A + B + E)) (n1 : K1 ≤ 2 * (A + B + E)) (n2 : K2 ≤ 2 * (A + B + E)) (w : World)
    (en : Hid (∀ w, Calls Try.prog 20 #[(.agg #[.int .i64 x, .int .i64 y, .int .i64 z])] w fun e w' => e = .returned (.tuple #[.int .u32 c, .int .i64 0]) ∧ Below w.heap.size w w')) (de : Hid (∀ w, Calls Try.prog 15 #[.int .u32 c] w fun e w' => e = .returned (.agg #[.int .i64 X, .int .i64 Y, .int .i64 Z]) ∧ Below w.heap.size w w'))
    (ax : Hid (∀ w, Calls Try.prog 30 #[.int .i64 x] w fun e w' => e = .returned (.int .i64 A) ∧ Below w.heap.size w w')) (ay : Hid (∀ w, Calls Try.prog 30 #[.int .i64 y] w fun e w' => e = .returned (.int .i64 B) ∧ Below w.heap.size w w')) (az : Hid (∀ w, Calls Try.prog 30 #[.int .i64 z] w fun e w' => e = .returned (.int .i64 E) ∧ Below w.heap.size w w')) (a0 : Hid (∀ w, Calls Try.prog 30 #[.int .i64 k0] w fun e w' => e = .returned (.int .i64 K0) ∧ Below w.heap.size w w')) (a1 : Hid (∀ w, Calls Try.prog 30 #[.int .i64 k1] w fun e w' => e = .returned (.int .i64 K1) ∧ Below w.heap.size w w')) (a2 : Hid (∀ w, Calls Try.prog 30 #[.int .i64 k2] w fun e w' => e = .returned (.int .i64 K2) ∧ Below w.heap.size w w'))
    (wk : Hid (∀ w, Calls Try.prog 19 #[] w fun e w' => e = .returned (.bool true) ∧ Below w.heap.size w w')) :
    Calls Try.prog 7 #[(.agg #[.int .i64 x, .int .i64 y, .int .i64 z])] w fun e w' => e = .returned (.bool true) ∧ Below w.heap.size w w' := by
  have hw1 : IntKind.i64.wrap (A + B) = A + B := by rw [IntKind.wrap_i64]; omega
  have hw2 : IntKind.i64.wrap (A + B + E) = A + B + E := by rw [IntKind.wrap_i64]; omega
  go_enter Try.func7, Try.ntmps7
  go_wp2_with (fail)
  obtain ⟨W0, hW⟩ : ∃ W0, W0 = (w.alloc (.cells #[.int .i64 x, .int .i64 y, .int .i64 z] 24)) := ⟨_, rfl⟩
  have hB0 : Below w.heap.size w W0 := hW ▸ (Below.al (Below.refl _ _))
  have HD : Hid (Own w.heap.size [.int .i64 x, .int .i64 y, .int .i64 z] W0) := Lib.hid (hW ▸ (Own.newAt (by simp)))
  rw [← hW]
  clear hW
  obtain ⟨D, eD⟩ : ∃ X, X = w.heap.size := ⟨_, rfl⟩
  rw [← eD] at HD ⊢
  have Dw : w.heap.size ≤ D := by omega
  clear eD
  go_at_call 20; refine (en.out _).mono ?_; rintro e w1 ⟨rfl, hb⟩
  replace HD := Lib.hid (HD.out.later hb)
  have hB1 := Below.go hB0 hb
  clear hb hB0
  go_wp2_with (fail)
  go_at_call 15; refine (de.out _).mono ?_; rintro e w2 ⟨rfl, hb⟩
  replace HD := Lib.hid (HD.out.later hb)
  have hB2 := Below.go hB1 hb
  clear hb hB1
  go_upto_region 5 with fail
  obtain ⟨W3, hW⟩ : ∃ W3, W3 = (w2.alloc (.cells #[.int .i64 X, .int .i64 Y, .int .i64 Z] 24)) := ⟨_, rfl⟩
  have hq : Below w2.heap.size w2 W3 := hW ▸ (Below.al (Below.refl _ _))
  have HN : Hid (Own w2.heap.size [.int .i64 X, .int .i64 Y, .int .i64 Z] W3) := Lib.hid (hW ▸ (Own.newAt (by simp)))
  rw [← hW]
  clear hW
  obtain ⟨N, eN⟩ : ∃ X, X = w2.heap.size := ⟨_, rfl⟩
  rw [← eN] at HN ⊢
  have Nw : w2.heap.size ≤ N := by omega
  clear eN
  replace HD := Lib.hid (HD.out.later hq)
  have hB3 : Below w.heap.size w W3 := Below.go hB2 hq
  clear hq hB2 Nw
  have hBd : Below W3.heap.size W3 W3.drew := (Below.refl _ _).drew
  have SH : Hid (∀ w', Below W3.heap.size W3 w' → w'.cell? ⟨D, 0, none⟩ = some (.int .i64 x) ∧ w'.cell? ⟨D, 1, none⟩ = some (.int .i64 y) ∧ w'.cell? ⟨D, 2, none⟩ = some (.int .i64 z)) := Lib.hid fun w' hb => ⟨(HD.out.later hb).at 0 _ rfl, (HD.out.later hb).at 1 _ rfl, (HD.out.later hb).at 2 _ rfl⟩
  go_region_held3 (fun w' => w'.cell? ⟨D, 0, none⟩ = some (.int .i64 x) ∧ w'.cell? ⟨D, 1, none⟩ = some (.int .i64 y) ∧ w'.cell? ⟨D, 2, none⟩ = some (.int .i64 z)) (first | exact SH.out _ (by assumption) | exact SH.out _ (Below.al (by assumption))) (first | (go_at_call 30; (with_reducible refine (ax.out _).mono ?_); rintro e w4 ⟨rfl, h1⟩; have bw4 : Below W3.heap.size W3 w4 := Below.go hBd h1; clear h1) | (go_at_call 30; (with_reducible refine (ay.out _).mono ?_); rintro e w5 ⟨rfl, h1⟩; have bw5 : Below W3.heap.size W3 w5 := Below.go bw4 h1; clear h1) | (go_at_call 30; (with_reducible refine (az.out _).mono ?_); rintro e w6 ⟨rfl, h1⟩; have bw6 : Below W3.heap.size W3 w6 := Below.go bw5 h1; clear h1))
  replace HD := Lib.hid (HD.out.later bw6)
  replace HN := Lib.hid (HN.out.later bw6)
  have hB6 := Below.go hB3 bw6
  clear hB3 hBd bw4 bw5 bw6 SH ax ay az en de hw1 hw2
  obtain ⟨L, hL⟩ : ∃ L, L = A + B + E := ⟨_, rfl⟩
  rw [← hL] at h0 h1 h2 n0 n1 n2 ⊢
  have bL : 0 ≤ L ∧ L ≤ 49152 := by omega
  clear hL bA bB bE
  have oD := HD.out
  have D0 := oD.at 0 _ rfl
  have D1 := oD.at 1 _ rfl
  have D2 := oD.at 2 _ rfl
  have Dl := oD.lt
  clear oD
  have oN := HN.out
  have N0 := oN.at 0 _ rfl
  have N1 := oN.at 1 _ rfl
  have N2 := oN.at 2 _ rfl
  have Nl := oN.lt
  clear oN
  go_wp2_with (fail)
  clear D0 D1 D2 Dl N0 N1 N2 Nl
  refine wp_loop_rounds 4 ?_
  obtain ⟨W7, hW⟩ : ∃ W7, W7 = (w6.alloc (.cells #[.int .i64 X, .int .i64 x, .int .i64 Y, .int .i64 y, .int .i64 Z, .int .i64 z] 45)) := ⟨_, rfl⟩
  have hq : Below w6.heap.size w6 W7 := hW ▸ (Below.al (Below.refl _ _))
  have HS : Hid (Own w6.heap.size [.int .i64 X, .int .i64 x, .int .i64 Y, .int .i64 y, .int .i64 Z, .int .i64 z] W7) := Lib.hid (hW ▸ (Own.newAt (by simp)))
  rw [← hW]
  clear hW
  obtain ⟨S, eS⟩ : ∃ X, X = w6.heap.size := ⟨_, rfl⟩
  rw [← eS] at HS ⊢
  have Sw : w6.heap.size ≤ S := by omega
  clear eS
  have hC : Below w.heap.size w W7 := Below.go hB6 hq
  clear hq hB6 Sw
  have oS := HS.out
  have S0 := oS.at 0 _ rfl
  have S1 := oS.at 1 _ rfl
  have S2 := oS.at 2 _ rfl
  have S3 := oS.at 3 _ rfl
  have S4 := oS.at 4 _ rfl
  have S5 := oS.at 5 _ rfl
  have Sl := oS.lt
  clear oS
  rw [rounds_succ]
  go_wp2_with (fail)
  go_at_call 30; refine (a0.out _).mono ?_; rintro e y0 ⟨rfl, hb⟩
  have hb2 := Below.go (Below.al (Below.refl _ _)) hb
  clear S0 S1 S2 S3 S4 S5 Sl hb
  replace HS := Lib.hid (HS.out.later hb2)
  replace hC := Below.go hC hb2
  clear hb2
  go_wp2_with (fail)
  have oS := HS.out
  have S0 := oS.at 0 _ rfl
  have S1 := oS.at 1 _ rfl
  have S2 := oS.at 2 _ rfl
  have S3 := oS.at 3 _ rfl
  have S4 := oS.at 4 _ rfl
  have S5 := oS.at 5 _ rfl
  have Sl := oS.lt
  clear oS
  rw [rounds_succ]
  go_wp2_with (fail)
  go_at_call 30; refine (a1.out _).mono ?_; rintro e y1 ⟨rfl, hb⟩
  have hb2 := Below.go (Below.al (Below.refl _ _)) hb
  clear S0 S1 S2 S3 S4 S5 Sl hb
  replace HS := Lib.hid (HS.out.later hb2)
  replace hC := Below.go hC hb2
  clear hb2
  go_wp2_with (fail)
  have oS := HS.out
  have S0 := oS.at 0 _ rfl
  have S1 := oS.at 1 _ rfl
  have S2 := oS.at 2 _ rfl
  have S3 := oS.at 3 _ rfl
  have S4 := oS.at 4 _ rfl
  have S5 := oS.at 5 _ rfl
  have Sl := oS.lt
  clear oS
  rw [rounds_succ]
  go_wp2_with (fail)
  go_at_call 30; refine (a2.out _).mono ?_; rintro e y2 ⟨rfl, hb⟩
  have hb2 := Below.go (Below.al (Below.refl _ _)) hb
  clear S0 S1 S2 S3 S4 S5 Sl hb
  replace HS := Lib.hid (HS.out.later hb2)
  replace hC := Below.go hC hb2
  clear hb2
  go_wp2_with (fail)
  rw [rounds_succ]
  go_wp2_with (fail)
  go_at_call 19; refine (wk.out _).mono ?_; rintro e y3 ⟨rfl, hb⟩
  go_wp2
  go_ret
  exact ⟨rfl, Below.go hC hb⟩
theorem prod_nat (a b p q : Int) (ha : -p ≤ a ∧ a ≤ p) (hb : -q ≤ b ∧ b ≤ q) : -(p * q) ≤ a * b ∧ a * b ≤ p * q := by
  have e : (a * b).natAbs ≤ p.toNat * q.toNat := by rw [Int.natAbs_mul]; exact Nat.mul_le_mul (by omega) (by omega)
  have e2 : ((p.toNat * q.toNat : Nat) : Int) = p * q := by rw [Int.natCast_mul, Int.toNat_of_nonneg (by omega), Int.toNat_of_nonneg (by omega)]
  omega
theorem Near_walk (x y z : Int) (w : World) : Calls Try.prog 7 #[(.agg #[.int .i64 x, .int .i64 y, .int .i64 z])] w fun e w' => e = .returned (.bool true) ∧ Below w.heap.size w w' := by
  cases h : dirB x y z with
  | false => exact Near_no x y z w (Lib.hid fun w => OEncode_none x y z h w) (Lib.hid fun w => h ▸ OMay_any x y z w) (Lib.hid works_any5)
  | true =>
    obtain ⟨_, bx, b_y, bz⟩ := (dirB_iff x y z).1 h
    have bA := absI_bd x 16384 bx
    have bB := absI_bd y 16384 b_y
    have bE := absI_bd z 16384 bz
    obtain ⟨eu, ev, hc0, hc1⟩ := mid_enc x y z h
    obtain ⟨e1, e2, e3⟩ := enc_dec x y z h
    obtain ⟨n0, n1, n2⟩ := near_num x y z h
    obtain ⟨bU, bV, _⟩ := enc_bd x y z h
    have oct := dec_oct _ _ bU bV
    have de := fun w => ODecode_any (encC x y z) hc0 hc1 w
    unfold decV at de
    rw [eu, ev] at de
    rw [← e1] at n0
    rw [← e2] at n1
    generalize decX (encU x y z) (encV x y z) = X at *
    generalize decY (encU x y z) (encV x y z) = Y at *
    generalize decZ (encU x y z) (encV x y z) = Z at *
    have eL : absI x + absI y + absI z = encL x y z := rfl
    have b1 : -16384 ≤ X ∧ X ≤ 16384 := by unfold absI at oct; (repeat' split at oct) <;> omega
    have b2 : -16384 ≤ Y ∧ Y ≤ 16384 := by unfold absI at oct; (repeat' split at oct) <;> omega
    have b3 : -16384 ≤ Z ∧ Z ≤ 16384 := by unfold absI at oct; (repeat' split at oct) <;> omega
    have p1 := prod_nat X (encL x y z) 16384 49152 (by omega) (by omega)
    have p2 := prod_nat Y (encL x y z) 16384 49152 (by omega) (by omega)
    have p3 := prod_nat Z (encL x y z) 16384 49152 (by omega) (by omega)
    have wr : ∀ P t : Int, -(16384 * 49152) ≤ P ∧ P ≤ 16384 * 49152 → -16384 ≤ t ∧ t ≤ 16384 → wrap64 (wrap64 P - wrap64 (t * 16384)) = P - t * 16384 := fun P t hp ht => by
      rw [IntWalk.wrap64_in P (by omega), IntWalk.wrap64_in (t * 16384) (by omega), IntWalk.wrap64_in _ (by omega)]
    have ab : ∀ P t : Int, -(16384 * 49152) ≤ P ∧ P ≤ 16384 * 49152 → -16384 ≤ t ∧ t ≤ 16384 → ∀ w, Calls Try.prog 30 #[.int .i64 (P - t * 16384)] w fun e w' => e = .returned (.int .i64 (absI (P - t * 16384))) ∧ Below w.heap.size w w' := fun P t hp ht w => below_eq (lawabs_any _ (by omega) (by omega) w)
    exact Near_yes x y z (absI x) (absI y) (absI z) (encC x y z) X Y Z _ _ _ _ _ _ bA bB bE (by rw [eL]; exact wr _ x p1 bx) (by rw [eL]; exact wr _ y p2 b_y) (by rw [eL]; exact wr _ z p3 bz) (by rw [eL]; exact n0) (by rw [eL]; exact n1) (by rw [eL]; exact n2) w
      (Lib.hid fun w => OEncode_any x y z h w) (Lib.hid de) (Lib.hid fun w => below_eq (lawabs_any x (by omega) (by omega) w)) (Lib.hid fun w => below_eq (lawabs_any y (by omega) (by omega) w)) (Lib.hid fun w => below_eq (lawabs_any z (by omega) (by omega) w))
      (Lib.hid (ab _ x p1 bx)) (Lib.hid (ab _ y p2 b_y)) (Lib.hid (ab _ z p3 bz)) (Lib.hid works_any5)
end Go.Proofs.Ytgggngcgcpmkbaa
