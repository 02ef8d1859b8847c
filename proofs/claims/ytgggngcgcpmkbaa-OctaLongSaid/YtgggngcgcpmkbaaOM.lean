/- umbralaw05.OctaLong: the walk. -/
import Derived.Test.YtgggngcgcpmkbaaOK
import Derived.Deep.DeepCutAuto
import Derived.Deep.RegionHeld3
namespace Go.Proofs.Ytgggngcgcpmkbaa
set_option linter.unusedVariables false
set_option maxRecDepth 2000
set_option linter.unusedSimpArgs false
open Go.RowKit
attribute [local go_sem] setCell_twice setCell_pair
attribute [local go_sem ↓] eqPt neqPt run_mx3
theorem prod_dir (a b : Int) (ha : -16384 ≤ a ∧ a ≤ 16384) (hb : -16384 ≤ b ∧ b ≤ 16384) : -268435456 ≤ a * b ∧ a * b ≤ 268435456 := by
  have e : (a * b).natAbs ≤ 16384 * 16384 := by rw [Int.natAbs_mul]; exact Nat.mul_le_mul (by omega) (by omega)
  generalize a * b = P at *
  omega
theorem eqVc (a b c d e f : Int) (w : World) : (binOp .eql 36 (.agg #[.int .i64 a, .int .i64 b, .int .i64 c]) (.agg #[.int .i64 d, .int .i64 e, .int .i64 f])).run Try.prog w = .ok (.bool (eqT a b c d e f)) w := by
  unfold eqT
  by_cases h : a = d
  · subst h
    by_cases h2 : b = e
    · subst h2
      by_cases h3 : c = f
      · subst h3; simp [go_sem]
      · simp [go_sem, h3]
    · have hb : (b == e) = false := by simpa using h2
      simp [go_sem, hb]
  · have hb : (a == d) = false := by simpa using h
    simp [go_sem, hb]
attribute [local go_sem ↓] eqVc

set_option maxHeartbeats 4000000 in
theorem Long_none (a b c : Int) (w : World)
    (qu : Hid (∀ w, Calls Try.prog 24 #[(.agg #[.int .i64 0, .int .i64 0, .int .i64 0])] w fun e w' => e = .returned (.tuple #[(.agg #[.int .i64 0, .int .i64 0, .int .i64 0]), .int .i64 2]) ∧ Below w.heap.size w w')) (wk : Hid (∀ w, Calls Try.prog 19 #[] w fun e w' => e = .returned (.bool true) ∧ Below w.heap.size w w')) :
    Calls Try.prog 8 #[(.agg #[.int .i64 0, .int .i64 0, .int .i64 0]), (.agg #[.int .i64 a, .int .i64 b, .int .i64 c])] w fun e w' => e = .returned (.bool true) ∧ Below w.heap.size w w' := by
  have e1 := eqT_self 0 0 0
  go_enter Try.func8, Try.ntmps8
  go_wp2_with (fail)
  obtain ⟨W0, hW⟩ : ∃ W0, W0 = ((w.alloc (.cells #[.int .i64 0, .int .i64 0, .int .i64 0] 36)).alloc (.cells #[.int .i64 a, .int .i64 b, .int .i64 c] 24)) := ⟨_, rfl⟩
  have hB0 : Below w.heap.size w W0 := hW ▸ (Below.al (Below.al (Below.refl _ _)))
  have HV : Hid (Own w.heap.size [.int .i64 0, .int .i64 0, .int .i64 0] W0) := Lib.hid (hW ▸ (Own.newAt (by simp)).alloc)
  have HN : Hid (Own (w.heap.size + 1) [.int .i64 a, .int .i64 b, .int .i64 c] W0) := Lib.hid (hW ▸ (Own.newAt (by simp)))
  rw [← hW]
  clear hW
  obtain ⟨N, eN⟩ : ∃ X, X = (w.heap.size + 1) := ⟨_, rfl⟩
  rw [← eN] at HN ⊢
  have Nw : w.heap.size ≤ N := by omega
  obtain ⟨V, eV⟩ : ∃ X, X = w.heap.size := ⟨_, rfl⟩
  rw [← eV] at HV ⊢
  have Vw : w.heap.size ≤ V := by omega
  have nVN : V ≠ N := by omega
  have nNV : N ≠ V := by omega
  clear eV eN
  have oV := HV.out
  have V0 := oV.at 0 _ rfl
  have V1 := oV.at 1 _ rfl
  have V2 := oV.at 2 _ rfl
  have Vl := oV.lt
  clear oV
  go_at_call 24; refine (qu.out _).mono ?_; rintro e w1 ⟨rfl, hb⟩
  replace HV := Lib.hid (HV.out.later hb)
  replace HN := Lib.hid (HN.out.later hb)
  have hB1 := Below.go hB0 hb
  clear hb hB0
  clear V0 V1 V2 Vl
  go_upto_region 2 with fail
  obtain ⟨W2, hW⟩ : ∃ W2, W2 = (w1.alloc (.cells #[.int .i64 0, .int .i64 0, .int .i64 0] 24)) := ⟨_, rfl⟩
  have hq : Below w1.heap.size w1 W2 := hW ▸ (Below.al (Below.refl _ _))
  have HD : Hid (Own w1.heap.size [.int .i64 0, .int .i64 0, .int .i64 0] W2) := Lib.hid (hW ▸ (Own.newAt (by simp)))
  rw [← hW]
  clear hW
  obtain ⟨D, eD⟩ : ∃ X, X = w1.heap.size := ⟨_, rfl⟩
  rw [← eD] at HD ⊢
  have Dw : w1.heap.size ≤ D := by omega
  clear eD
  replace HV := Lib.hid (HV.out.later hq)
  have hB2 : Below w.heap.size w W2 := Below.go hB1 hq
  clear hq hB1 Dw
  have oV := HV.out
  have V0 := oV.at 0 _ rfl
  have V1 := oV.at 1 _ rfl
  have V2 := oV.at 2 _ rfl
  have Vl := oV.lt
  clear oV
  have oD := HD.out
  have D0 := oD.at 0 _ rfl
  have D1 := oD.at 1 _ rfl
  have D2 := oD.at 2 _ rfl
  have Dl := oD.lt
  clear oD
  go_wp2_with (fail)
  go_at_call 19; refine (wk.out _).mono ?_; rintro e w3 ⟨rfl, hb⟩
  go_wp2
  go_ret
  exact ⟨rfl, Below.go hB2 hb⟩

set_option maxHeartbeats 8000000 in
theorem Long_off (x y z a b c X Y Z A B E U V' T k : Int) (p q : Bool) (hv : eqT x y z 0 0 0 = false) (bX : -16384 ≤ X ∧ X ≤ 16384) (bY : -16384 ≤ Y ∧ Y ≤ 16384) (bZ : -16384 ≤ Z ∧ Z ≤ 16384) (hm : mx3 A B E = 16384) (w : World)
    (qu : Hid (∀ w, Calls Try.prog 24 #[(.agg #[.int .i64 x, .int .i64 y, .int .i64 z])] w fun e w' => e = .returned (.tuple #[(.agg #[.int .i64 X, .int .i64 Y, .int .i64 Z]), .int .i64 0]) ∧ Below w.heap.size w w')) (md : Hid (∀ w, Calls Try.prog 22 #[(.agg #[.int .i64 X, .int .i64 Y, .int .i64 Z])] w fun e w' => e = .returned (.bool true) ∧ Below w.heap.size w w')) (ax : Hid (∀ w, Calls Try.prog 30 #[.int .i64 X] w fun e w' => e = .returned (.int .i64 A) ∧ Below w.heap.size w w')) (ay : Hid (∀ w, Calls Try.prog 30 #[.int .i64 Y] w fun e w' => e = .returned (.int .i64 B) ∧ Below w.heap.size w w')) (az : Hid (∀ w, Calls Try.prog 30 #[.int .i64 Z] w fun e w' => e = .returned (.int .i64 E) ∧ Below w.heap.size w w'))
    (wk : Hid (∀ w, Calls Try.prog 19 #[] w fun e w' => e = .returned (.bool true) ∧ Below w.heap.size w w')) (mn : Hid (∀ w, Calls Try.prog 22 #[(.agg #[.int .i64 a, .int .i64 b, .int .i64 c])] w fun e w' => e = .returned (.bool false) ∧ Below w.heap.size w w')) :
    Calls Try.prog 8 #[(.agg #[.int .i64 x, .int .i64 y, .int .i64 z]), (.agg #[.int .i64 a, .int .i64 b, .int .i64 c])] w fun e w' => e = .returned (.bool true) ∧ Below w.heap.size w w' := by
  go_enter Try.func8, Try.ntmps8
  go_wp2_with (fail)
  obtain ⟨W0, hW⟩ : ∃ W0, W0 = ((w.alloc (.cells #[.int .i64 x, .int .i64 y, .int .i64 z] 36)).alloc (.cells #[.int .i64 a, .int .i64 b, .int .i64 c] 24)) := ⟨_, rfl⟩
  have hB0 : Below w.heap.size w W0 := hW ▸ (Below.al (Below.al (Below.refl _ _)))
  have HV : Hid (Own w.heap.size [.int .i64 x, .int .i64 y, .int .i64 z] W0) := Lib.hid (hW ▸ (Own.newAt (by simp)).alloc)
  have HN : Hid (Own (w.heap.size + 1) [.int .i64 a, .int .i64 b, .int .i64 c] W0) := Lib.hid (hW ▸ (Own.newAt (by simp)))
  rw [← hW]
  clear hW
  obtain ⟨N, eN⟩ : ∃ X, X = (w.heap.size + 1) := ⟨_, rfl⟩
  rw [← eN] at HN ⊢
  have Nw : w.heap.size ≤ N := by omega
  obtain ⟨V, eV⟩ : ∃ X, X = w.heap.size := ⟨_, rfl⟩
  rw [← eV] at HV ⊢
  have Vw : w.heap.size ≤ V := by omega
  have nVN : V ≠ N := by omega
  have nNV : N ≠ V := by omega
  clear eV eN
  have oV := HV.out
  have V0 := oV.at 0 _ rfl
  have V1 := oV.at 1 _ rfl
  have V2 := oV.at 2 _ rfl
  have Vl := oV.lt
  clear oV
  go_at_call 24; refine (qu.out _).mono ?_; rintro e w1 ⟨rfl, hb⟩
  replace HV := Lib.hid (HV.out.later hb)
  replace HN := Lib.hid (HN.out.later hb)
  have hB1 := Below.go hB0 hb
  clear hb hB0
  clear V0 V1 V2 Vl
  go_upto_region 2 with fail
  obtain ⟨W2, hW⟩ : ∃ W2, W2 = (w1.alloc (.cells #[.int .i64 X, .int .i64 Y, .int .i64 Z] 24)) := ⟨_, rfl⟩
  have hq : Below w1.heap.size w1 W2 := hW ▸ (Below.al (Below.refl _ _))
  have HD : Hid (Own w1.heap.size [.int .i64 X, .int .i64 Y, .int .i64 Z] W2) := Lib.hid (hW ▸ (Own.newAt (by simp)))
  rw [← hW]
  clear hW
  obtain ⟨D, eD⟩ : ∃ X, X = w1.heap.size := ⟨_, rfl⟩
  rw [← eD] at HD ⊢
  have Dw : w1.heap.size ≤ D := by omega
  clear eD
  replace HV := Lib.hid (HV.out.later hq)
  replace HN := Lib.hid (HN.out.later hq)
  have hB2 : Below w.heap.size w W2 := Below.go hB1 hq
  clear hq hB1 Dw
  have oV := HV.out
  have V0 := oV.at 0 _ rfl
  have V1 := oV.at 1 _ rfl
  have V2 := oV.at 2 _ rfl
  have Vl := oV.lt
  clear oV
  go_wp2_with (fail)
  clear V0 V1 V2 Vl
  have hBd : Below W2.heap.size W2 W2.drew := (Below.refl _ _).drew
  have SH : Hid (∀ w', Below W2.heap.size W2 w' → w'.cell? ⟨D, 0, none⟩ = some (.int .i64 X) ∧ w'.cell? ⟨D, 1, none⟩ = some (.int .i64 Y) ∧ w'.cell? ⟨D, 2, none⟩ = some (.int .i64 Z)) := Lib.hid fun w' hb => ⟨(HD.out.later hb).at 0 _ rfl, (HD.out.later hb).at 1 _ rfl, (HD.out.later hb).at 2 _ rfl⟩
  go_region_held3 (fun w' => w'.cell? ⟨D, 0, none⟩ = some (.int .i64 X) ∧ w'.cell? ⟨D, 1, none⟩ = some (.int .i64 Y) ∧ w'.cell? ⟨D, 2, none⟩ = some (.int .i64 Z)) (first | exact SH.out _ (by assumption) | exact SH.out _ (Below.al (by assumption))) (first | (go_at_call 22; (with_reducible refine (md.out _).mono ?_); rintro e w3 ⟨rfl, h1⟩; have bw3 : Below W2.heap.size W2 w3 := Below.go hBd h1; clear h1) | (go_at_call 30; (with_reducible refine (ax.out _).mono ?_); rintro e w4 ⟨rfl, h1⟩; have bw4 : Below W2.heap.size W2 w4 := Below.go bw3 h1; clear h1) | (go_at_call 30; (with_reducible refine (ay.out _).mono ?_); rintro e w5 ⟨rfl, h1⟩; have bw5 : Below W2.heap.size W2 w5 := Below.go bw4 h1; clear h1) | (go_at_call 30; (with_reducible refine (az.out _).mono ?_); rintro e w6 ⟨rfl, h1⟩; have bw6 : Below W2.heap.size W2 w6 := Below.go bw5 h1; clear h1))
  replace HD := Lib.hid (HD.out.later bw6)
  replace HN := Lib.hid (HN.out.later bw6)
  have hB6 := Below.go hB2 bw6
  clear hB2 hBd bw3 bw4 bw5 bw6 SH md ax ay az qu hm
  have oN := HN.out
  have N0 := oN.at 0 _ rfl
  have N1 := oN.at 1 _ rfl
  have N2 := oN.at 2 _ rfl
  have Nl := oN.lt
  clear oN
  go_wp2_with (fail)
  go_at_call 22; refine (mn.out _).mono ?_; rintro e w7 ⟨rfl, hb⟩
  replace HD := Lib.hid (HD.out.later hb)
  replace HN := Lib.hid (HN.out.later hb)
  have hB7 := Below.go hB6 hb
  clear hb hB6
  clear N0 N1 N2 Nl
  go_wp2_with (fail)
  go_at_call 19; refine (wk.out _).mono ?_; rintro e w8 ⟨rfl, hb⟩
  go_wp2
  go_ret
  exact ⟨rfl, Below.go hB7 hb⟩

set_option maxHeartbeats 8000000 in
theorem Long_on (x y z a b c X Y Z A B E U V' T k : Int) (p q : Bool) (hv : eqT x y z 0 0 0 = false) (bX : -16384 ≤ X ∧ X ≤ 16384) (bY : -16384 ≤ Y ∧ Y ≤ 16384) (bZ : -16384 ≤ Z ∧ Z ≤ 16384) (hm : mx3 A B E = 16384) (w : World)
    (qu : Hid (∀ w, Calls Try.prog 24 #[(.agg #[.int .i64 x, .int .i64 y, .int .i64 z])] w fun e w' => e = .returned (.tuple #[(.agg #[.int .i64 X, .int .i64 Y, .int .i64 Z]), .int .i64 0]) ∧ Below w.heap.size w w')) (md : Hid (∀ w, Calls Try.prog 22 #[(.agg #[.int .i64 X, .int .i64 Y, .int .i64 Z])] w fun e w' => e = .returned (.bool true) ∧ Below w.heap.size w w')) (ax : Hid (∀ w, Calls Try.prog 30 #[.int .i64 X] w fun e w' => e = .returned (.int .i64 A) ∧ Below w.heap.size w w')) (ay : Hid (∀ w, Calls Try.prog 30 #[.int .i64 Y] w fun e w' => e = .returned (.int .i64 B) ∧ Below w.heap.size w w')) (az : Hid (∀ w, Calls Try.prog 30 #[.int .i64 Z] w fun e w' => e = .returned (.int .i64 E) ∧ Below w.heap.size w w'))
    (wk : Hid (∀ w, Calls Try.prog 19 #[] w fun e w' => e = .returned (.bool true) ∧ Below w.heap.size w w')) (mn : Hid (∀ w, Calls Try.prog 22 #[(.agg #[.int .i64 a, .int .i64 b, .int .i64 c])] w fun e w' => e = .returned (.bool true) ∧ Below w.heap.size w w')) (fa : Hid (∀ w, Calls Try.prog 28 #[(.agg #[.int .i64 X, .int .i64 Y, .int .i64 Z]), (.agg #[.int .i64 a, .int .i64 b, .int .i64 c])] w fun e w' => e = .returned (.agg #[.int .i64 U, .int .i64 V', .int .i64 T]) ∧ Below w.heap.size w w')) (dt : Hid (∀ w, Calls Try.prog 26 #[(.agg #[.int .i64 U, .int .i64 V', .int .i64 T]), (.agg #[.int .i64 a, .int .i64 b, .int .i64 c])] w fun e w' => e = .returned (.int .i64 k) ∧ Below w.heap.size w w')) (hk : 0 ≤ k) (e1 : eqT U V' T X Y Z = p) (e2 : eqT U V' T (-X) (-Y) (-Z) = q) (hpq : p = true ∨ p = false ∧ q = true) :
    Calls Try.prog 8 #[(.agg #[.int .i64 x, .int .i64 y, .int .i64 z]), (.agg #[.int .i64 a, .int .i64 b, .int .i64 c])] w fun e w' => e = .returned (.bool true) ∧ Below w.heap.size w w' := by
  go_enter Try.func8, Try.ntmps8
  go_wp2_with (fail)
  obtain ⟨W0, hW⟩ : ∃ W0, W0 = ((w.alloc (.cells #[.int .i64 x, .int .i64 y, .int .i64 z] 36)).alloc (.cells #[.int .i64 a, .int .i64 b, .int .i64 c] 24)) := ⟨_, rfl⟩
  have hB0 : Below w.heap.size w W0 := hW ▸ (Below.al (Below.al (Below.refl _ _)))
  have HV : Hid (Own w.heap.size [.int .i64 x, .int .i64 y, .int .i64 z] W0) := Lib.hid (hW ▸ (Own.newAt (by simp)).alloc)
  have HN : Hid (Own (w.heap.size + 1) [.int .i64 a, .int .i64 b, .int .i64 c] W0) := Lib.hid (hW ▸ (Own.newAt (by simp)))
  rw [← hW]
  clear hW
  obtain ⟨N, eN⟩ : ∃ X, X = (w.heap.size + 1) := ⟨_, rfl⟩
  rw [← eN] at HN ⊢
  have Nw : w.heap.size ≤ N := by omega
  obtain ⟨V, eV⟩ : ∃ X, X = w.heap.size := ⟨_, rfl⟩
  rw [← eV] at HV ⊢
  have Vw : w.heap.size ≤ V := by omega
  have nVN : V ≠ N := by omega
  have nNV : N ≠ V := by omega
  clear eV eN
  have oV := HV.out
  have V0 := oV.at 0 _ rfl
  have V1 := oV.at 1 _ rfl
  have V2 := oV.at 2 _ rfl
  have Vl := oV.lt
  clear oV
  go_at_call 24; refine (qu.out _).mono ?_; rintro e w1 ⟨rfl, hb⟩
  replace HV := Lib.hid (HV.out.later hb)
  replace HN := Lib.hid (HN.out.later hb)
  have hB1 := Below.go hB0 hb
  clear hb hB0
  clear V0 V1 V2 Vl
  go_upto_region 2 with fail
  obtain ⟨W2, hW⟩ : ∃ W2, W2 = (w1.alloc (.cells #[.int .i64 X, .int .i64 Y, .int .i64 Z] 24)) := ⟨_, rfl⟩
  have hq : Below w1.heap.size w1 W2 := hW ▸ (Below.al (Below.refl _ _))
  have HD : Hid (Own w1.heap.size [.int .i64 X, .int .i64 Y, .int .i64 Z] W2) := Lib.hid (hW ▸ (Own.newAt (by simp)))
  rw [← hW]
  clear hW
  obtain ⟨D, eD⟩ : ∃ X, X = w1.heap.size := ⟨_, rfl⟩
  rw [← eD] at HD ⊢
  have Dw : w1.heap.size ≤ D := by omega
  clear eD
  replace HV := Lib.hid (HV.out.later hq)
  replace HN := Lib.hid (HN.out.later hq)
  have hB2 : Below w.heap.size w W2 := Below.go hB1 hq
  clear hq hB1 Dw
  have oV := HV.out
  have V0 := oV.at 0 _ rfl
  have V1 := oV.at 1 _ rfl
  have V2 := oV.at 2 _ rfl
  have Vl := oV.lt
  clear oV
  go_wp2_with (fail)
  clear V0 V1 V2 Vl
  have hBd : Below W2.heap.size W2 W2.drew := (Below.refl _ _).drew
  have SH : Hid (∀ w', Below W2.heap.size W2 w' → w'.cell? ⟨D, 0, none⟩ = some (.int .i64 X) ∧ w'.cell? ⟨D, 1, none⟩ = some (.int .i64 Y) ∧ w'.cell? ⟨D, 2, none⟩ = some (.int .i64 Z)) := Lib.hid fun w' hb => ⟨(HD.out.later hb).at 0 _ rfl, (HD.out.later hb).at 1 _ rfl, (HD.out.later hb).at 2 _ rfl⟩
  go_region_held3 (fun w' => w'.cell? ⟨D, 0, none⟩ = some (.int .i64 X) ∧ w'.cell? ⟨D, 1, none⟩ = some (.int .i64 Y) ∧ w'.cell? ⟨D, 2, none⟩ = some (.int .i64 Z)) (first | exact SH.out _ (by assumption) | exact SH.out _ (Below.al (by assumption))) (first | (go_at_call 22; (with_reducible refine (md.out _).mono ?_); rintro e w3 ⟨rfl, h1⟩; have bw3 : Below W2.heap.size W2 w3 := Below.go hBd h1; clear h1) | (go_at_call 30; (with_reducible refine (ax.out _).mono ?_); rintro e w4 ⟨rfl, h1⟩; have bw4 : Below W2.heap.size W2 w4 := Below.go bw3 h1; clear h1) | (go_at_call 30; (with_reducible refine (ay.out _).mono ?_); rintro e w5 ⟨rfl, h1⟩; have bw5 : Below W2.heap.size W2 w5 := Below.go bw4 h1; clear h1) | (go_at_call 30; (with_reducible refine (az.out _).mono ?_); rintro e w6 ⟨rfl, h1⟩; have bw6 : Below W2.heap.size W2 w6 := Below.go bw5 h1; clear h1))
  replace HD := Lib.hid (HD.out.later bw6)
  replace HN := Lib.hid (HN.out.later bw6)
  have hB6 := Below.go hB2 bw6
  clear hB2 hBd bw3 bw4 bw5 bw6 SH md ax ay az qu hm
  have oN := HN.out
  have N0 := oN.at 0 _ rfl
  have N1 := oN.at 1 _ rfl
  have N2 := oN.at 2 _ rfl
  have Nl := oN.lt
  clear oN
  go_wp2_with (fail)
  go_at_call 22; refine (mn.out _).mono ?_; rintro e w7 ⟨rfl, hb⟩
  replace HD := Lib.hid (HD.out.later hb)
  replace HN := Lib.hid (HN.out.later hb)
  have hB7 := Below.go hB6 hb
  clear hb hB6
  clear N0 N1 N2 Nl
  have oD := HD.out
  have D0 := oD.at 0 _ rfl
  have D1 := oD.at 1 _ rfl
  have D2 := oD.at 2 _ rfl
  have Dl := oD.lt
  clear oD
  have oN := HN.out
  have N0 := oN.at 0 _ rfl
  have N1 := oN.at 1 _ rfl
  have N2 := oN.at 2 _ rfl
  have Nl := oN.lt
  clear oN
  go_wp2_with (fail)
  go_at_call 28; refine (fa.out _).mono ?_; rintro e w8 ⟨rfl, hb⟩
  replace HD := Lib.hid (HD.out.later hb)
  replace HN := Lib.hid (HN.out.later hb)
  have hB8 := Below.go hB7 hb
  clear hb hB7
  clear D0 D1 D2 Dl N0 N1 N2 Nl
  go_upto_region 9 with fail
  obtain ⟨W9, hW⟩ : ∃ W9, W9 = (w8.alloc (.cells #[.int .i64 U, .int .i64 V', .int .i64 T] 24)) := ⟨_, rfl⟩
  have hq : Below w8.heap.size w8 W9 := hW ▸ (Below.al (Below.refl _ _))
  have HF : Hid (Own w8.heap.size [.int .i64 U, .int .i64 V', .int .i64 T] W9) := Lib.hid (hW ▸ (Own.newAt (by simp)))
  rw [← hW]
  clear hW
  obtain ⟨F, eF⟩ : ∃ X, X = w8.heap.size := ⟨_, rfl⟩
  rw [← eF] at HF ⊢
  have Fw : w8.heap.size ≤ F := by omega
  clear eF
  replace HD := Lib.hid (HD.out.later hq)
  replace HN := Lib.hid (HN.out.later hq)
  have hB9 : Below w.heap.size w W9 := Below.go hB8 hq
  clear hq hB8 Fw
  rcases hpq with rfl | ⟨rfl, rfl⟩
  all_goals
    have oD := HD.out
    have D0 := oD.at 0 _ rfl
    have D1 := oD.at 1 _ rfl
    have D2 := oD.at 2 _ rfl
    have Dl := oD.lt
    clear oD
    have oN := HN.out
    have N0 := oN.at 0 _ rfl
    have N1 := oN.at 1 _ rfl
    have N2 := oN.at 2 _ rfl
    have Nl := oN.lt
    clear oN
    have oF := HF.out
    have F0 := oF.at 0 _ rfl
    have F1 := oF.at 1 _ rfl
    have F2 := oF.at 2 _ rfl
    have Fl := oF.lt
    clear oF
    go_wp2_with (fail)
    go_at_call 26; refine (dt.out _).mono ?_; rintro e wa ⟨rfl, hb⟩
    replace HD := Lib.hid (HD.out.later hb)
    replace HF := Lib.hid (HF.out.later hb)
    have hBa := Below.go hB9 hb
    clear hb hB9
    clear D0 D1 D2 Dl N0 N1 N2 Nl F0 F1 F2 Fl
    have oD := HD.out
    have D0 := oD.at 0 _ rfl
    have D1 := oD.at 1 _ rfl
    have D2 := oD.at 2 _ rfl
    have Dl := oD.lt
    clear oD
    have oF := HF.out
    have F0 := oF.at 0 _ rfl
    have F1 := oF.at 1 _ rfl
    have F2 := oF.at 2 _ rfl
    have Fl := oF.lt
    clear oF
    go_wp2_with (fail)
    go_at_call 19; refine (wk.out _).mono ?_; rintro e wb ⟨rfl, hb⟩
    go_wp2
    go_ret
    exact ⟨rfl, Below.go hBa hb⟩

theorem dotW_in (X Y Z a b c : Int) (bX : -16384 ≤ X ∧ X ≤ 16384) (bY : -16384 ≤ Y ∧ Y ≤ 16384) (bZ : -16384 ≤ Z ∧ Z ≤ 16384) (ba : -16384 ≤ a ∧ a ≤ 16384) (bb : -16384 ≤ b ∧ b ≤ 16384) (bc : -16384 ≤ c ∧ c ≤ 16384) : dotW X Y Z a b c = X * a + Y * b + Z * c := by
  have p := prod_dir X a bX ba
  have q := prod_dir Y b bY bb
  have r := prod_dir Z c bZ bc
  unfold dotW
  generalize X * a = P at *
  generalize Y * b = Q at *
  generalize Z * c = R at *
  rw [IntWalk.wrap64_in P (by omega), IntWalk.wrap64_in Q (by omega), IntWalk.wrap64_in R (by omega), IntWalk.wrap64_in (P + Q) (by omega), IntWalk.wrap64_in _ (by omega)]
theorem qP_bd (x m : Int) (hm : 1 ≤ m) (h : mostOk x m) : -16384 ≤ qP x m ∧ qP x m ≤ 16384 := by
  have := part_bd x m hm h
  unfold qP
  split <;> omega
theorem qP_full (x m : Int) (hx : in64 x) (hm : 1 ≤ m) (h : absF x = m) : absI (qP x m) = 16384 := by
  unfold in64 at hx
  unfold absF sat at h
  by_cases c : x < 0
  · rw [if_pos c] at h
    by_cases c2 : x = -9223372036854775808
    · subst c2
      have : m = 9223372036854775807 := by split at h <;> (try split at h) <;> omega
      subst this
      decide
    · have : m = -x := by split at h <;> (try split at h) <;> omega
      subst this
      have e : 16384 * x / -x = -16384 := by
        rw [show 16384 * x = -16384 * -x by omega]
        exact Int.mul_ediv_cancel _ (by omega)
      unfold qP
      rw [e]
      decide
  · rw [if_neg c] at h
    subst h
    have e : 16384 * x / x = 16384 := Int.mul_ediv_cancel _ (by omega)
    unfold qP
    rw [e]
    decide
theorem quant_num (x y z : Int) (hx : in64 x) (hy : in64 y) (hz : in64 z) (h : mostF x y z ≠ 0) :
    mx3 (absI (qP x (mostF x y z))) (absI (qP y (mostF x y z))) (absI (qP z (mostF x y z))) = 16384 ∧ dirB (qP x (mostF x y z)) (qP y (mostF x y z)) (qP z (mostF x y z)) = true := by
  obtain ⟨m0, m1, ax, ay, az⟩ := most_bd x y z hx hy hz
  have h1 : 1 ≤ mostF x y z := by omega
  have bx := qP_bd _ _ h1 ax
  have b_y := qP_bd _ _ h1 ay
  have bz := qP_bd _ _ h1 az
  have cx := absI_bd _ 16384 bx
  have cy := absI_bd _ 16384 b_y
  have cz := absI_bd _ 16384 bz
  have one : absI (qP x (mostF x y z)) = 16384 ∨ absI (qP y (mostF x y z)) = 16384 ∨ absI (qP z (mostF x y z)) = 16384 := by
    have : absF x = mostF x y z ∨ absF y = mostF x y z ∨ absF z = mostF x y z := by unfold mostF; omega
    rcases this with e | e | e
    · exact .inl (qP_full x _ hx h1 e)
    · exact .inr (.inl (qP_full y _ hy h1 e))
    · exact .inr (.inr (qP_full z _ hz h1 e))
  generalize qP x (mostF x y z) = X at *
  generalize qP y (mostF x y z) = Y at *
  generalize qP z (mostF x y z) = Z at *
  refine ⟨?_, ?_⟩
  · have g1 := mx3_gt (absI X) (absI Y) (absI Z) 16384
    have g2 := mx3_gt (absI X) (absI Y) (absI Z) 16383
    generalize mx3 (absI X) (absI Y) (absI Z) = M at *
    omega
  · rw [dirB_iff]
    refine ⟨?_, bx, b_y, bz⟩
    rintro ⟨rfl, rfl, rfl⟩
    revert one
    decide
theorem most_zero (x y z : Int) (hx : in64 x) (hy : in64 y) (hz : in64 z) : mostF x y z = 0 ↔ x = 0 ∧ y = 0 ∧ z = 0 := by
  unfold in64 at hx hy hz
  have a : ∀ t, -9223372036854775808 ≤ t ∧ t ≤ 9223372036854775807 → 0 ≤ absF t ∧ (absF t = 0 ↔ t = 0) := fun t ht => by
    unfold absF sat
    split
    · split
      · omega
      · split <;> omega
    · omega
  have ax := a x hx
  have ay := a y hy
  have az := a z hz
  unfold mostF
  omega
theorem eqT_iff (a b c d e f : Int) : eqT a b c d e f = true ↔ a = d ∧ b = e ∧ c = f := by unfold eqT; simp

theorem Long_walk (x y z a b c : Int) (hx : in64 x) (hy : in64 y) (hz : in64 z) (w : World) : Calls Try.prog 8 #[(.agg #[.int .i64 x, .int .i64 y, .int .i64 z]), (.agg #[.int .i64 a, .int .i64 b, .int .i64 c])] w fun e w' => e = .returned (.bool true) ∧ Below w.heap.size w w' := by
  by_cases h : mostF x y z = 0
  · obtain ⟨rfl, rfl, rfl⟩ := (most_zero x y z hx hy hz).1 h
    exact Long_none a b c w (Lib.hid fun w => OQuant_none 0 0 0 hx hy hz h w) (Lib.hid works_any5)
  · have hv : eqT x y z 0 0 0 = false := by
      cases e : eqT x y z 0 0 0 with
      | false => rfl
      | true => exact absurd ((most_zero x y z hx hy hz).2 ((eqT_iff _ _ _ _ _ _).1 e)) h
    obtain ⟨hm, hd⟩ := quant_num x y z hx hy hz h
    have qu := fun w => OQuant_any x y z hx hy hz h w
    unfold quaV at qu
    generalize qP x (mostF x y z) = X at *
    generalize qP y (mostF x y z) = Y at *
    generalize qP z (mostF x y z) = Z at *
    obtain ⟨_, bX, bY, bZ⟩ := (dirB_iff X Y Z).1 hd
    have md := fun w => OMay_any X Y Z w
    rw [hd] at md
    have mn := fun w => OMay_any a b c w
    cases hn : dirB a b c with
    | false =>
      rw [hn] at mn
      exact Long_off x y z a b c X Y Z _ _ _ 0 0 0 0 true true hv bX bY bZ hm w (Lib.hid qu) (Lib.hid md) (Lib.hid fun w => below_eq (lawabs_any X (by omega) (by omega) w)) (Lib.hid fun w => below_eq (lawabs_any Y (by omega) (by omega) w)) (Lib.hid fun w => below_eq (lawabs_any Z (by omega) (by omega) w)) (Lib.hid works_any5) (Lib.hid mn)
    | true =>
      rw [hn] at mn
      obtain ⟨_, ba, bb, bc⟩ := (dirB_iff a b c).1 hn
      have e0 := dotW_in X Y Z a b c bX bY bZ ba bb bc
      have fa := fun w => OFacing_any X Y Z a b c w
      have nX := IntWalk.wrap64_in (-X) (by omega)
      have nY := IntWalk.wrap64_in (-Y) (by omega)
      have nZ := IntWalk.wrap64_in (-Z) (by omega)
      unfold facW at fa
      by_cases k : dotW X Y Z a b c < 0
      · simp only [if_pos k, nX, nY, nZ] at fa
        have e1 := dotW_in (-X) (-Y) (-Z) a b c (by omega) (by omega) (by omega) ba bb bc
        have dt := fun w => ODot_any (-X) (-Y) (-Z) a b c w
        refine Long_on x y z a b c X Y Z _ _ _ (-X) (-Y) (-Z) _ _ _ hv bX bY bZ hm w (Lib.hid qu) (Lib.hid md) (Lib.hid fun w => below_eq (lawabs_any X (by omega) (by omega) w)) (Lib.hid fun w => below_eq (lawabs_any Y (by omega) (by omega) w)) (Lib.hid fun w => below_eq (lawabs_any Z (by omega) (by omega) w)) (Lib.hid works_any5) (Lib.hid mn) (Lib.hid fa) (Lib.hid dt) ?_ rfl rfl ?_
        · rw [e1]
          rw [e0] at k
          simp only [Int.neg_mul]
          omega
        · cases e : eqT (-X) (-Y) (-Z) X Y Z with
          | true => exact .inl rfl
          | false => exact .inr ⟨rfl, eqT_self _ _ _⟩
      · simp only [if_neg k] at fa
        have dt := fun w => ODot_any X Y Z a b c w
        exact Long_on x y z a b c X Y Z _ _ _ X Y Z _ _ _ hv bX bY bZ hm w (Lib.hid qu) (Lib.hid md) (Lib.hid fun w => below_eq (lawabs_any X (by omega) (by omega) w)) (Lib.hid fun w => below_eq (lawabs_any Y (by omega) (by omega) w)) (Lib.hid fun w => below_eq (lawabs_any Z (by omega) (by omega) w)) (Lib.hid works_any5) (Lib.hid mn) (Lib.hid fa) (Lib.hid dt) (by omega) rfl rfl (.inl (eqT_self _ _ _))
end Go.Proofs.Ytgggngcgcpmkbaa
