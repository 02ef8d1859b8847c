/- affine.Move, compose, Then. -/
import Derived.Test.YtgggngcgcpmkbaaAE
import Derived.Test.YtgggngcgcpmkbaaAD
import Derived.Test.YtgggngcgcpmkbaaAB
import Derived.LoopN
import Derived.LoopTactic
namespace Go.Proofs.Ytgggngcgcpmkbaa
set_option linter.unusedVariables false
set_option maxRecDepth 2000
set_option linter.unusedSimpArgs false
open Go.RowKit
attribute [local go_sem] setCell_twice setCell_pair

set_option maxHeartbeats 4000000 in
theorem Move_any (x y z : Int) (w : World) : Calls Try.prog 49 #[(.agg #[.int .i64 x, .int .i64 y, .int .i64 z])] w fun e w' => e = .returned (.agg #[.int .i64 4294967296, .int .i64 0, .int .i64 0, .int .i64 0, .int .i64 4294967296, .int .i64 0, .int .i64 0, .int .i64 0, .int .i64 4294967296, .int .i64 x, .int .i64 y, .int .i64 z]) ∧ Below w.heap.size w w' := by
  have sm := Lib.hid Same_any
  go_enter Try.func49, Try.ntmps49
  go_upto_region 1 with fail
  obtain ⟨W0, hW⟩ : ∃ W0, W0 = ((w.alloc (.cells #[.int .i64 x, .int .i64 y, .int .i64 z] 36)).alloc (.cells #[.int .i64 0, .int .i64 0, .int .i64 0, .int .i64 0, .int .i64 0, .int .i64 0, .int .i64 0, .int .i64 0, .int .i64 0, .int .i64 0, .int .i64 0, .int .i64 0] 80)) := ⟨_, rfl⟩
  have hB0 : Below w.heap.size w W0 := hW ▸ (Below.al (Below.al (Below.refl _ _)))
  have HV : Hid (Own w.heap.size [.int .i64 x, .int .i64 y, .int .i64 z] W0) := Lib.hid (hW ▸ (Own.newAt (by simp)).alloc)
  have HR : Hid (Own (w.heap.size + 1) [.int .i64 0, .int .i64 0, .int .i64 0, .int .i64 0, .int .i64 0, .int .i64 0, .int .i64 0, .int .i64 0, .int .i64 0, .int .i64 0, .int .i64 0, .int .i64 0] W0) := Lib.hid (hW ▸ (Own.newAt (by simp)))
  rw [← hW]
  clear hW
  obtain ⟨R, eR⟩ : ∃ X, X = (w.heap.size + 1) := ⟨_, rfl⟩
  rw [← eR] at HR ⊢
  have Rw : w.heap.size ≤ R := by omega
  obtain ⟨V, eV⟩ : ∃ X, X = w.heap.size := ⟨_, rfl⟩
  rw [← eV] at HV ⊢
  have Vw : w.heap.size ≤ V := by omega
  have nVR : V ≠ R := by omega
  have nRV : R ≠ V := by omega
  clear eV eR
  go_upto_region 3 with (go_at_call 47; refine (sm.out _).mono ?_; rintro e w1 ⟨rfl, hb⟩; have oV := HV.out.later hb; have v0 := oV.at 0 _ rfl; have v1 := oV.at 1 _ rfl; have v2 := oV.at 2 _ rfl; have hVl := oV.lt; clear oV)
  have HR1 := Lib.hid (HR.out.later hb)
  clear HV HR v0 v1 v2 hVl
  obtain ⟨W1, hW⟩ : ∃ W1, W1 = (w1.alloc (.cells #[.int .i64 4294967296, .int .i64 0, .int .i64 0, .int .i64 0, .int .i64 4294967296, .int .i64 0, .int .i64 0, .int .i64 0, .int .i64 4294967296, .int .i64 x, .int .i64 y, .int .i64 z] 80)) := ⟨_, rfl⟩
  have hB1 : Below w1.heap.size w1 W1 := hW ▸ (Below.al (Below.refl _ _))
  have HN : Hid (Own w1.heap.size [.int .i64 4294967296, .int .i64 0, .int .i64 0, .int .i64 0, .int .i64 4294967296, .int .i64 0, .int .i64 0, .int .i64 0, .int .i64 4294967296, .int .i64 x, .int .i64 y, .int .i64 z] W1) := Lib.hid (hW ▸ (Own.newAt (by simp)))
  rw [← hW]
  clear hW
  obtain ⟨N, eN⟩ : ∃ X, X = w1.heap.size := ⟨_, rfl⟩
  rw [← eN] at HN ⊢
  have Nw : w1.heap.size ≤ N := by omega
  clear eN
  have HR2 := Lib.hid (HR1.out.later hB1)
  have hB2 : Below w.heap.size w W1 := Below.go (Below.go hB0 hb) hB1
  clear HR1 hB1 hb hB0
  have oN := HN.out
  have N0 := oN.at 0 _ rfl
  have N1 := oN.at 1 _ rfl
  have N2 := oN.at 2 _ rfl
  have N3 := oN.at 3 _ rfl
  have N4 := oN.at 4 _ rfl
  have N5 := oN.at 5 _ rfl
  have N6 := oN.at 6 _ rfl
  have N7 := oN.at 7 _ rfl
  have N8 := oN.at 8 _ rfl
  have N9 := oN.at 9 _ rfl
  have N10 := oN.at 10 _ rfl
  have N11 := oN.at 11 _ rfl
  have Nl := oN.lt
  clear oN
  have oR := HR2.out
  have R0 := oR.at 0 _ rfl
  have Rf0 := oR.ok 0 (by simp)
  have R1 := oR.at 1 _ rfl
  have Rf1 := oR.ok 1 (by simp)
  have R2 := oR.at 2 _ rfl
  have Rf2 := oR.ok 2 (by simp)
  have R3 := oR.at 3 _ rfl
  have Rf3 := oR.ok 3 (by simp)
  have R4 := oR.at 4 _ rfl
  have Rf4 := oR.ok 4 (by simp)
  have R5 := oR.at 5 _ rfl
  have Rf5 := oR.ok 5 (by simp)
  have R6 := oR.at 6 _ rfl
  have Rf6 := oR.ok 6 (by simp)
  have R7 := oR.at 7 _ rfl
  have Rf7 := oR.ok 7 (by simp)
  have R8 := oR.at 8 _ rfl
  have Rf8 := oR.ok 8 (by simp)
  have R9 := oR.at 9 _ rfl
  have Rf9 := oR.ok 9 (by simp)
  have R10 := oR.at 10 _ rfl
  have Rf10 := oR.ok 10 (by simp)
  have R11 := oR.at 11 _ rfl
  have Rf11 := oR.ok 11 (by simp)
  have Rl := oR.lt
  clear oR
  clear HN HR2
  go_wp2_with (fail)
  exact bodyPost_ret (v := (.agg #[.int .i64 4294967296, .int .i64 0, .int .i64 0, .int .i64 0, .int .i64 4294967296, .int .i64 0, .int .i64 0, .int .i64 0, .int .i64 4294967296, .int .i64 x, .int .i64 y, .int .i64 z])) (by simp [results, Try.results49, go_sem, R0, R1, R2, R3, R4, R5, R6, R7, R8, R9, R10, R11]) rfl ⟨rfl, by repeat (first | (with_reducible assumption) | (with_reducible refine Below.al ?_) | (with_reducible refine Below.setCell ?_ (by first | assumption | (simp; omega) | omega) _))⟩

set_option maxHeartbeats 8000000 in
theorem compose_core (m0 m1 m2 m3 m4 m5 m6 m7 m8 tx ty tz n0 n1 n2 n3 n4 n5 n6 n7 n8 ux uy uz a0 a1 a2 b0 b1 b2 c0 c1 c2 t0 t1 t2 : Int) (w : World)
    (k0 : Hid (∀ w, Calls Try.prog 107 #[(.agg #[.int .i64 n0, .int .i64 n1, .int .i64 n2, .int .i64 n3, .int .i64 n4, .int .i64 n5, .int .i64 n6, .int .i64 n7, .int .i64 n8, .int .i64 ux, .int .i64 uy, .int .i64 uz]), (.agg #[.int .i64 m0, .int .i64 m3, .int .i64 m6])] w fun e w' => e = .returned (.agg #[.int .i64 a0, .int .i64 a1, .int .i64 a2]) ∧ Below w.heap.size w w'))
    (k1 : Hid (∀ w, Calls Try.prog 107 #[(.agg #[.int .i64 n0, .int .i64 n1, .int .i64 n2, .int .i64 n3, .int .i64 n4, .int .i64 n5, .int .i64 n6, .int .i64 n7, .int .i64 n8, .int .i64 ux, .int .i64 uy, .int .i64 uz]), (.agg #[.int .i64 m1, .int .i64 m4, .int .i64 m7])] w fun e w' => e = .returned (.agg #[.int .i64 b0, .int .i64 b1, .int .i64 b2]) ∧ Below w.heap.size w w'))
    (k2 : Hid (∀ w, Calls Try.prog 107 #[(.agg #[.int .i64 n0, .int .i64 n1, .int .i64 n2, .int .i64 n3, .int .i64 n4, .int .i64 n5, .int .i64 n6, .int .i64 n7, .int .i64 n8, .int .i64 ux, .int .i64 uy, .int .i64 uz]), (.agg #[.int .i64 m2, .int .i64 m5, .int .i64 m8])] w fun e w' => e = .returned (.agg #[.int .i64 c0, .int .i64 c1, .int .i64 c2]) ∧ Below w.heap.size w w'))
    (k3 : Hid (∀ w, Calls Try.prog 97 #[(.agg #[.int .i64 n0, .int .i64 n1, .int .i64 n2, .int .i64 n3, .int .i64 n4, .int .i64 n5, .int .i64 n6, .int .i64 n7, .int .i64 n8, .int .i64 ux, .int .i64 uy, .int .i64 uz]), (.agg #[.int .i64 tx, .int .i64 ty, .int .i64 tz])] w fun e w' => e = .returned (.agg #[.int .i64 t0, .int .i64 t1, .int .i64 t2]) ∧ Below w.heap.size w w')) :
    Calls Try.prog 90 #[(.agg #[.int .i64 m0, .int .i64 m1, .int .i64 m2, .int .i64 m3, .int .i64 m4, .int .i64 m5, .int .i64 m6, .int .i64 m7, .int .i64 m8, .int .i64 tx, .int .i64 ty, .int .i64 tz]), (.agg #[.int .i64 n0, .int .i64 n1, .int .i64 n2, .int .i64 n3, .int .i64 n4, .int .i64 n5, .int .i64 n6, .int .i64 n7, .int .i64 n8, .int .i64 ux, .int .i64 uy, .int .i64 uz])] w fun e w' => e = .returned (.agg #[.int .i64 a0, .int .i64 b0, .int .i64 c0, .int .i64 a1, .int .i64 b1, .int .i64 c1, .int .i64 a2, .int .i64 b2, .int .i64 c2, .int .i64 t0, .int .i64 t1, .int .i64 t2]) ∧ Below w.heap.size w w' := by
  have cl := Lib.hid (columns_any m0 m1 m2 m3 m4 m5 m6 m7 m8 tx ty tz)
  have fc := Lib.hid (fromColumns_any a0 a1 a2 b0 b1 b2 c0 c1 c2 t0 t1 t2)
  go_enter Try.func90, Try.ntmps90
  go_upto_region 1 with fail
  obtain ⟨W0, hW⟩ : ∃ W0, W0 = (((w.alloc (.cells #[.int .i64 m0, .int .i64 m1, .int .i64 m2, .int .i64 m3, .int .i64 m4, .int .i64 m5, .int .i64 m6, .int .i64 m7, .int .i64 m8, .int .i64 tx, .int .i64 ty, .int .i64 tz] 80)).alloc (.cells #[.int .i64 n0, .int .i64 n1, .int .i64 n2, .int .i64 n3, .int .i64 n4, .int .i64 n5, .int .i64 n6, .int .i64 n7, .int .i64 n8, .int .i64 ux, .int .i64 uy, .int .i64 uz] 80)).alloc (.cells #[.int .i64 0, .int .i64 0, .int .i64 0, .int .i64 0, .int .i64 0, .int .i64 0, .int .i64 0, .int .i64 0, .int .i64 0, .int .i64 0, .int .i64 0, .int .i64 0] 80)) := ⟨_, rfl⟩
  have hB0 : Below w.heap.size w W0 := hW ▸ (Below.al (Below.al (Below.al (Below.refl _ _))))
  have HA : Hid (Own w.heap.size [.int .i64 m0, .int .i64 m1, .int .i64 m2, .int .i64 m3, .int .i64 m4, .int .i64 m5, .int .i64 m6, .int .i64 m7, .int .i64 m8, .int .i64 tx, .int .i64 ty, .int .i64 tz] W0) := Lib.hid (hW ▸ (Own.newAt (by simp)).alloc.alloc)
  have HG : Hid (Own (w.heap.size + 1) [.int .i64 n0, .int .i64 n1, .int .i64 n2, .int .i64 n3, .int .i64 n4, .int .i64 n5, .int .i64 n6, .int .i64 n7, .int .i64 n8, .int .i64 ux, .int .i64 uy, .int .i64 uz] W0) := Lib.hid (hW ▸ (Own.newAt (by simp)).alloc)
  have HR : Hid (Own ((w.heap.size + 1) + 1) [.int .i64 0, .int .i64 0, .int .i64 0, .int .i64 0, .int .i64 0, .int .i64 0, .int .i64 0, .int .i64 0, .int .i64 0, .int .i64 0, .int .i64 0, .int .i64 0] W0) := Lib.hid (hW ▸ (Own.newAt (by simp)))
  rw [← hW]
  clear hW
  obtain ⟨R, eR⟩ : ∃ X, X = ((w.heap.size + 1) + 1) := ⟨_, rfl⟩
  rw [← eR] at HR ⊢
  have Rw : w.heap.size ≤ R := by omega
  obtain ⟨G, eG⟩ : ∃ X, X = (w.heap.size + 1) := ⟨_, rfl⟩
  rw [← eG] at HG ⊢
  have Gw : w.heap.size ≤ G := by omega
  obtain ⟨A, eA⟩ : ∃ X, X = w.heap.size := ⟨_, rfl⟩
  rw [← eA] at HA ⊢
  have Aw : w.heap.size ≤ A := by omega
  have nAG : A ≠ G := by omega
  have nGA : G ≠ A := by omega
  have nAR : A ≠ R := by omega
  have nRA : R ≠ A := by omega
  have nGR : G ≠ R := by omega
  have nRG : R ≠ G := by omega
  clear eA eG eR
  have hA := HA.out.lt; have hG := HG.out.lt; have hR := HR.out.lt
  have a0_ := HA.out.at 0 _ rfl; have a1_ := HA.out.at 1 _ rfl; have a2_ := HA.out.at 2 _ rfl; have a3_ := HA.out.at 3 _ rfl; have a4_ := HA.out.at 4 _ rfl; have a5_ := HA.out.at 5 _ rfl; have a6_ := HA.out.at 6 _ rfl; have a7_ := HA.out.at 7 _ rfl; have a8_ := HA.out.at 8 _ rfl; have a9_ := HA.out.at 9 _ rfl; have a10_ := HA.out.at 10 _ rfl; have a11_ := HA.out.at 11 _ rfl
  go_wp2_with (go_at_call 106; refine (cl.out _).mono ?_; rintro e w1 ⟨rfl, hb⟩)
  have HA1 : Hid (Own A [.int .i64 m0, .int .i64 m1, .int .i64 m2, .int .i64 m3, .int .i64 m4, .int .i64 m5, .int .i64 m6, .int .i64 m7, .int .i64 m8, .int .i64 tx, .int .i64 ty, .int .i64 tz] w1) := Lib.hid (HA.out.later hb)
  clear a0_ a1_ a2_ a3_ a4_ a5_ a6_ a7_ a8_ a9_ a10_ a11_
  have HG1 := Lib.hid (HG.out.later hb); have HR1 := Lib.hid (HR.out.later hb)
  clear HA HG HR hA hG hR HA1
  obtain ⟨W1, hW⟩ : ∃ W1, W1 = (w1.alloc (.cells #[.int .i64 m0, .int .i64 m3, .int .i64 m6, .int .i64 m1, .int .i64 m4, .int .i64 m7, .int .i64 m2, .int .i64 m5, .int .i64 m8, .int .i64 tx, .int .i64 ty, .int .i64 tz] 127)) := ⟨_, rfl⟩
  have hB1 : Below w1.heap.size w1 W1 := hW ▸ (Below.al (Below.refl _ _))
  have HD : Hid (Own w1.heap.size [.int .i64 m0, .int .i64 m3, .int .i64 m6, .int .i64 m1, .int .i64 m4, .int .i64 m7, .int .i64 m2, .int .i64 m5, .int .i64 m8, .int .i64 tx, .int .i64 ty, .int .i64 tz] W1) := Lib.hid (hW ▸ (Own.newAt (by simp)))
  rw [← hW]
  clear hW
  obtain ⟨D, eD⟩ : ∃ X, X = w1.heap.size := ⟨_, rfl⟩
  rw [← eD] at HD ⊢
  have Dw : w1.heap.size ≤ D := by omega
  clear eD
  have HG := Lib.hid (HG1.out.later hB1); have HR := Lib.hid (HR1.out.later hB1)
  have hB2 : Below w.heap.size w W1 := Below.go (Below.go hB0 hb) hB1
  have hGl := HG1.out.lt; have hRl := HR1.out.lt
  have nGD : G ≠ D := by omega
  have nRD : R ≠ D := by omega
  have Dww : w.heap.size ≤ D := by have := hB0.size; have := hb.size; omega
  replace Dw := Dww
  clear HG1 HR1 hB1 hb hB0 Dww hGl hRl
  refine wp_loop_rounds 4 ?_
  rw [rounds_succ]
  go_wp2_with (fail)
  refine wp_region_fun 8 (by kernel_rfl) (by kernel_rfl) rfl (fun s b => ⟨#[(.agg #[.int .i64 m0, .int .i64 m1, .int .i64 m2, .int .i64 m3, .int .i64 m4, .int .i64 m5, .int .i64 m6, .int .i64 m7, .int .i64 m8, .int .i64 tx, .int .i64 ty, .int .i64 tz]), (.agg #[.int .i64 n0, .int .i64 n1, .int .i64 n2, .int .i64 n3, .int .i64 n4, .int .i64 n5, .int .i64 n6, .int .i64 n7, .int .i64 n8, .int .i64 ux, .int .i64 uy, .int .i64 uz]), .pointer (some ⟨A, 0, none⟩), .pointer (some ⟨G, 0, none⟩), .pointer (some ⟨R, 0, none⟩), .pointer (some ⟨D, 0, none⟩), .int .i64 0, (.agg #[.int .i64 m0, .int .i64 m1, .int .i64 m2, .int .i64 m3, .int .i64 m4, .int .i64 m5, .int .i64 m6, .int .i64 m7, .int .i64 m8, .int .i64 tx, .int .i64 ty, .int .i64 tz]), (.agg #[.int .i64 m0, .int .i64 m3, .int .i64 m6, .int .i64 m1, .int .i64 m4, .int .i64 m7, .int .i64 m2, .int .i64 m5, .int .i64 m8, .int .i64 tx, .int .i64 ty, .int .i64 tz]), .int .i64 0, .bool true, .int .i64 0, s 12, s 13, s 14, s 15, s 16, s 17, s 18, undef, undef, undef, undef, undef, undef, undef, undef], []⟩) (fun d s b w => (d 7 = false → Below W1.heap.size W1 w) ∧ (d 0 = true → s 12 = .int .i64 0) ∧ (d 1 = true → s 13 = (.agg #[.int .i64 n0, .int .i64 n1, .int .i64 n2, .int .i64 n3, .int .i64 n4, .int .i64 n5, .int .i64 n6, .int .i64 n7, .int .i64 n8, .int .i64 ux, .int .i64 uy, .int .i64 uz])) ∧ (d 2 = true → s 14 = .int .i64 0) ∧ (d 3 = true → s 15 = .pointer (some ⟨D, 0, none⟩)) ∧ (d 4 = true → s 16 = (.agg #[.int .i64 m0, .int .i64 m3, .int .i64 m6])) ∧ (d 5 = true → s 17 = (.agg #[.int .i64 a0, .int .i64 a1, .int .i64 a2])) ∧ (d 6 = true → s 18 = .pointer (some ⟨D, 0, none⟩)) ∧ (d 7 = true → ∀ j, j < 7 → d j = true) ∧ (d 7 = true → ∃ w2, Below W1.heap.size W1 w2 ∧ w = w2.setCells D 0 [.int .i64 a0, .int .i64 a1, .int .i64 a2])) rfl ?h0y0 (?sty0 : StepsF _ _ _ _ 8 _ _ [0, 1, 2, 3, 4, 5, 6, 7]) ?dny0
  case h0y0 => exact ⟨fun _ => Below.drew (Below.refl _ _), (fun h => nomatch h), (fun h => nomatch h), (fun h => nomatch h), (fun h => nomatch h), (fun h => nomatch h), (fun h => nomatch h), (fun h => nomatch h), (fun h => nomatch h), (fun h => nomatch h)⟩
  case sty0 =>
    refine StepsF.cons (o := _) rfl (ws := []) (by kernel_rfl) (by decide) (fun d s b w hF hd hw K hK => ?_) ?_
    · have hk : d 7 = false := by cases e : d 7 with | false => rfl | true => exact absurd ((hF.out.2.2.2.2.2.2.2.2.1) e 0 (by decide)) (by simp [hd])
      have hB : Below W1.heap.size W1 w := (hF.out.1) hk
      dsimp only
      go_simp
      exact hK.out (ups s 12 (.int .i64 0)) b _ ⟨(fun _ => hB), (fun _ => rfl), (hF.out.2.2.1), (hF.out.2.2.2.1), (hF.out.2.2.2.2.1), (hF.out.2.2.2.2.2.1), (hF.out.2.2.2.2.2.2.1), (hF.out.2.2.2.2.2.2.2.1), (fun h => absurd ((hF.out.2.2.2.2.2.2.2.2.1) h 0 (by decide)) (by simp [hd])), (fun h => absurd ((hF.out.2.2.2.2.2.2.2.2.1) h 0 (by decide)) (by simp [hd]))⟩
    refine StepsF.cons (o := _) rfl (ws := []) (by kernel_rfl) (by decide) (fun d s b w hF hd hw K hK => ?_) ?_
    · have hk : d 7 = false := by cases e : d 7 with | false => rfl | true => exact absurd ((hF.out.2.2.2.2.2.2.2.2.1) e 1 (by decide)) (by simp [hd])
      have hB : Below W1.heap.size W1 w := (hF.out.1) hk
      dsimp only
      have og := HG.out.later hB
      have g0 := og.at 0 _ rfl
      have g1 := og.at 1 _ rfl
      have g2 := og.at 2 _ rfl
      have g3 := og.at 3 _ rfl
      have g4 := og.at 4 _ rfl
      have g5 := og.at 5 _ rfl
      have g6 := og.at 6 _ rfl
      have g7 := og.at 7 _ rfl
      have g8 := og.at 8 _ rfl
      have g9 := og.at 9 _ rfl
      have g10 := og.at 10 _ rfl
      have g11 := og.at 11 _ rfl
      clear og
      have od := HD.out.later hB
      have d0 := od.at 0 _ rfl
      have d1 := od.at 1 _ rfl
      have d2 := od.at 2 _ rfl
      clear od
      go_simp
      exact hK.out (ups s 13 ((.agg #[.int .i64 n0, .int .i64 n1, .int .i64 n2, .int .i64 n3, .int .i64 n4, .int .i64 n5, .int .i64 n6, .int .i64 n7, .int .i64 n8, .int .i64 ux, .int .i64 uy, .int .i64 uz]))) b _ ⟨(fun _ => hB), (hF.out.2.1), (fun _ => rfl), (hF.out.2.2.2.1), (hF.out.2.2.2.2.1), (hF.out.2.2.2.2.2.1), (hF.out.2.2.2.2.2.2.1), (hF.out.2.2.2.2.2.2.2.1), (fun h => absurd ((hF.out.2.2.2.2.2.2.2.2.1) h 1 (by decide)) (by simp [hd])), (fun h => absurd ((hF.out.2.2.2.2.2.2.2.2.1) h 1 (by decide)) (by simp [hd]))⟩
    refine StepsF.cons (o := _) rfl (ws := []) (by kernel_rfl) (by decide) (fun d s b w hF hd hw K hK => ?_) ?_
    · have hk : d 7 = false := by cases e : d 7 with | false => rfl | true => exact absurd ((hF.out.2.2.2.2.2.2.2.2.1) e 2 (by decide)) (by simp [hd])
      have hB : Below W1.heap.size W1 w := (hF.out.1) hk
      dsimp only
      go_simp
      exact hK.out (ups s 14 (.int .i64 0)) b _ ⟨(fun _ => hB), (hF.out.2.1), (hF.out.2.2.1), (fun _ => rfl), (hF.out.2.2.2.2.1), (hF.out.2.2.2.2.2.1), (hF.out.2.2.2.2.2.2.1), (hF.out.2.2.2.2.2.2.2.1), (fun h => absurd ((hF.out.2.2.2.2.2.2.2.2.1) h 2 (by decide)) (by simp [hd])), (fun h => absurd ((hF.out.2.2.2.2.2.2.2.2.1) h 2 (by decide)) (by simp [hd]))⟩
    refine StepsF.cons (o := _) rfl (ws := [2]) (by kernel_rfl) (by decide) (fun d s b w hF hd hw K hK => ?_) ?_
    · have hk : d 7 = false := by cases e : d 7 with | false => rfl | true => exact absurd ((hF.out.2.2.2.2.2.2.2.2.1) e 3 (by decide)) (by simp [hd])
      have hB : Below W1.heap.size W1 w := (hF.out.1) hk
      have e2 : s 14 = .int .i64 0 := (hF.out.2.2.2.1) (hw 2 (by decide))
      dsimp only
      go_simp
      exact hK.out (ups (ups s 14 (.int .i64 0)) 15 (.pointer (some ⟨D, 0, none⟩))) b _ ⟨(fun _ => hB), (hF.out.2.1), (hF.out.2.2.1), (fun _ => rfl), (fun _ => rfl), (hF.out.2.2.2.2.2.1), (hF.out.2.2.2.2.2.2.1), (hF.out.2.2.2.2.2.2.2.1), (fun h => absurd ((hF.out.2.2.2.2.2.2.2.2.1) h 3 (by decide)) (by simp [hd])), (fun h => absurd ((hF.out.2.2.2.2.2.2.2.2.1) h 3 (by decide)) (by simp [hd]))⟩
    refine StepsF.cons (o := _) rfl (ws := [3]) (by kernel_rfl) (by decide) (fun d s b w hF hd hw K hK => ?_) ?_
    · have hk : d 7 = false := by cases e : d 7 with | false => rfl | true => exact absurd ((hF.out.2.2.2.2.2.2.2.2.1) e 4 (by decide)) (by simp [hd])
      have hB : Below W1.heap.size W1 w := (hF.out.1) hk
      have e3 : s 15 = .pointer (some ⟨D, 0, none⟩) := (hF.out.2.2.2.2.1) (hw 3 (by decide))
      dsimp only
      have og := HG.out.later hB
      have g0 := og.at 0 _ rfl
      have g1 := og.at 1 _ rfl
      have g2 := og.at 2 _ rfl
      have g3 := og.at 3 _ rfl
      have g4 := og.at 4 _ rfl
      have g5 := og.at 5 _ rfl
      have g6 := og.at 6 _ rfl
      have g7 := og.at 7 _ rfl
      have g8 := og.at 8 _ rfl
      have g9 := og.at 9 _ rfl
      have g10 := og.at 10 _ rfl
      have g11 := og.at 11 _ rfl
      clear og
      have od := HD.out.later hB
      have d0 := od.at 0 _ rfl
      have d1 := od.at 1 _ rfl
      have d2 := od.at 2 _ rfl
      clear od
      go_simp
      exact hK.out (ups (ups s 15 (.pointer (some ⟨D, 0, none⟩))) 16 ((.agg #[.int .i64 m0, .int .i64 m3, .int .i64 m6]))) b _ ⟨(fun _ => hB), (hF.out.2.1), (hF.out.2.2.1), (hF.out.2.2.2.1), (fun _ => rfl), (fun _ => rfl), (hF.out.2.2.2.2.2.2.1), (hF.out.2.2.2.2.2.2.2.1), (fun h => absurd ((hF.out.2.2.2.2.2.2.2.2.1) h 4 (by decide)) (by simp [hd])), (fun h => absurd ((hF.out.2.2.2.2.2.2.2.2.1) h 4 (by decide)) (by simp [hd]))⟩
    refine StepsF.cons (o := _) rfl (ws := [1, 4]) (by kernel_rfl) (by decide) (fun d s b w hF hd hw K hK => ?_) ?_
    · have hk : d 7 = false := by cases e : d 7 with | false => rfl | true => exact absurd ((hF.out.2.2.2.2.2.2.2.2.1) e 5 (by decide)) (by simp [hd])
      have hB : Below W1.heap.size W1 w := (hF.out.1) hk
      have e1 : s 13 = (.agg #[.int .i64 n0, .int .i64 n1, .int .i64 n2, .int .i64 n3, .int .i64 n4, .int .i64 n5, .int .i64 n6, .int .i64 n7, .int .i64 n8, .int .i64 ux, .int .i64 uy, .int .i64 uz]) := (hF.out.2.2.1) (hw 1 (by decide))
      have e4 : s 16 = (.agg #[.int .i64 m0, .int .i64 m3, .int .i64 m6]) := (hF.out.2.2.2.2.2.1) (hw 4 (by decide))
      dsimp only
      go_simp
      go_at_call 107
      refine (k0.out _).mono ?_
      rintro e w1 ⟨rfl, hb⟩
      exact hK.out (ups (ups (ups s 13 ((.agg #[.int .i64 n0, .int .i64 n1, .int .i64 n2, .int .i64 n3, .int .i64 n4, .int .i64 n5, .int .i64 n6, .int .i64 n7, .int .i64 n8, .int .i64 ux, .int .i64 uy, .int .i64 uz]))) 16 ((.agg #[.int .i64 m0, .int .i64 m3, .int .i64 m6]))) 17 ((.agg #[.int .i64 a0, .int .i64 a1, .int .i64 a2]))) b _ ⟨(fun _ => (Below.go hB hb)), (hF.out.2.1), (fun _ => rfl), (hF.out.2.2.2.1), (hF.out.2.2.2.2.1), (fun _ => rfl), (fun _ => rfl), (hF.out.2.2.2.2.2.2.2.1), (fun h => absurd ((hF.out.2.2.2.2.2.2.2.2.1) h 5 (by decide)) (by simp [hd])), (fun h => absurd ((hF.out.2.2.2.2.2.2.2.2.1) h 5 (by decide)) (by simp [hd]))⟩
    refine StepsF.cons (o := _) rfl (ws := [0, 0, 1, 2, 3, 4, 5]) (by kernel_rfl) (by decide) (fun d s b w hF hd hw K hK => ?_) ?_
    · have hk : d 7 = false := by cases e : d 7 with | false => rfl | true => exact absurd ((hF.out.2.2.2.2.2.2.2.2.1) e 6 (by decide)) (by simp [hd])
      have hB : Below W1.heap.size W1 w := (hF.out.1) hk
      have e0 : s 12 = .int .i64 0 := (hF.out.2.1) (hw 0 (by decide))
      have e1 : s 13 = (.agg #[.int .i64 n0, .int .i64 n1, .int .i64 n2, .int .i64 n3, .int .i64 n4, .int .i64 n5, .int .i64 n6, .int .i64 n7, .int .i64 n8, .int .i64 ux, .int .i64 uy, .int .i64 uz]) := (hF.out.2.2.1) (hw 1 (by decide))
      have e2 : s 14 = .int .i64 0 := (hF.out.2.2.2.1) (hw 2 (by decide))
      have e3 : s 15 = .pointer (some ⟨D, 0, none⟩) := (hF.out.2.2.2.2.1) (hw 3 (by decide))
      have e4 : s 16 = (.agg #[.int .i64 m0, .int .i64 m3, .int .i64 m6]) := (hF.out.2.2.2.2.2.1) (hw 4 (by decide))
      have e5 : s 17 = (.agg #[.int .i64 a0, .int .i64 a1, .int .i64 a2]) := (hF.out.2.2.2.2.2.2.1) (hw 5 (by decide))
      dsimp only
      go_simp
      exact hK.out (ups (ups (ups (ups (ups (ups (ups s 12 (.int .i64 0)) 13 ((.agg #[.int .i64 n0, .int .i64 n1, .int .i64 n2, .int .i64 n3, .int .i64 n4, .int .i64 n5, .int .i64 n6, .int .i64 n7, .int .i64 n8, .int .i64 ux, .int .i64 uy, .int .i64 uz]))) 14 (.int .i64 0)) 15 (.pointer (some ⟨D, 0, none⟩))) 16 ((.agg #[.int .i64 m0, .int .i64 m3, .int .i64 m6]))) 17 ((.agg #[.int .i64 a0, .int .i64 a1, .int .i64 a2]))) 18 (.pointer (some ⟨D, 0, none⟩))) b _ ⟨(fun _ => hB), (fun _ => rfl), (fun _ => rfl), (fun _ => rfl), (fun _ => rfl), (fun _ => rfl), (fun _ => rfl), (fun _ => rfl), (fun h => absurd ((hF.out.2.2.2.2.2.2.2.2.1) h 6 (by decide)) (by simp [hd])), (fun h => absurd ((hF.out.2.2.2.2.2.2.2.2.1) h 6 (by decide)) (by simp [hd]))⟩
    refine StepsF.cons (o := _) rfl (ws := [6, 5, 5, 0, 1, 2, 3, 4, 5]) (by kernel_rfl) (by decide) (fun d s b w hF hd hw K hK => ?_) ?_
    · have hB : Below W1.heap.size W1 w := (hF.out.1) hd
      have e0 : s 12 = .int .i64 0 := (hF.out.2.1) (hw 0 (by decide))
      have e1 : s 13 = (.agg #[.int .i64 n0, .int .i64 n1, .int .i64 n2, .int .i64 n3, .int .i64 n4, .int .i64 n5, .int .i64 n6, .int .i64 n7, .int .i64 n8, .int .i64 ux, .int .i64 uy, .int .i64 uz]) := (hF.out.2.2.1) (hw 1 (by decide))
      have e2 : s 14 = .int .i64 0 := (hF.out.2.2.2.1) (hw 2 (by decide))
      have e3 : s 15 = .pointer (some ⟨D, 0, none⟩) := (hF.out.2.2.2.2.1) (hw 3 (by decide))
      have e4 : s 16 = (.agg #[.int .i64 m0, .int .i64 m3, .int .i64 m6]) := (hF.out.2.2.2.2.2.1) (hw 4 (by decide))
      have e5 : s 17 = (.agg #[.int .i64 a0, .int .i64 a1, .int .i64 a2]) := (hF.out.2.2.2.2.2.2.1) (hw 5 (by decide))
      have e6 : s 18 = .pointer (some ⟨D, 0, none⟩) := (hF.out.2.2.2.2.2.2.2.1) (hw 6 (by decide))
      dsimp only
      have oX := HD.out.later hB
      have fr0 := oX.ok 0 (by simp)
      have fr1 := oX.ok 1 (by simp)
      have fr2 := oX.ok 2 (by simp)
      have ce0 := oX.at 0 _ rfl
      have ce1 := oX.at 1 _ rfl
      have ce2 := oX.at 2 _ rfl
      clear oX
      go_simp
      exact hK.out (ups (ups (ups (ups (ups (ups (ups s 12 (.int .i64 0)) 13 ((.agg #[.int .i64 n0, .int .i64 n1, .int .i64 n2, .int .i64 n3, .int .i64 n4, .int .i64 n5, .int .i64 n6, .int .i64 n7, .int .i64 n8, .int .i64 ux, .int .i64 uy, .int .i64 uz]))) 14 (.int .i64 0)) 15 (.pointer (some ⟨D, 0, none⟩))) 16 ((.agg #[.int .i64 m0, .int .i64 m3, .int .i64 m6]))) 17 ((.agg #[.int .i64 a0, .int .i64 a1, .int .i64 a2]))) 18 (.pointer (some ⟨D, 0, none⟩))) b _ ⟨(fun h => nomatch h), (fun _ => rfl), (fun _ => rfl), (fun _ => rfl), (fun _ => rfl), (fun _ => rfl), (fun _ => rfl), (fun _ => rfl), (fun _ j hj => by have hj2 := hw j (by simp; omega); simp [upd, hj2]), (fun _ => ⟨w, hB, rfl⟩)⟩
    exact StepsF.nil
  intro d s b y0 hF hall
  replace hF := Lib.hid hF
  obtain ⟨y0, hB, rfl⟩ := (hF.out.2.2.2.2.2.2.2.2.2) (hall 7 (by decide))
  try dsimp only
  have e0 : s 12 = .int .i64 0 := (hF.out.2.1) (hall 0 (by decide))
  have e1 : s 13 = (.agg #[.int .i64 n0, .int .i64 n1, .int .i64 n2, .int .i64 n3, .int .i64 n4, .int .i64 n5, .int .i64 n6, .int .i64 n7, .int .i64 n8, .int .i64 ux, .int .i64 uy, .int .i64 uz]) := (hF.out.2.2.1) (hall 1 (by decide))
  have e2 : s 14 = .int .i64 0 := (hF.out.2.2.2.1) (hall 2 (by decide))
  have e3 : s 15 = .pointer (some ⟨D, 0, none⟩) := (hF.out.2.2.2.2.1) (hall 3 (by decide))
  have e4 : s 16 = (.agg #[.int .i64 m0, .int .i64 m3, .int .i64 m6]) := (hF.out.2.2.2.2.2.1) (hall 4 (by decide))
  have e5 : s 17 = (.agg #[.int .i64 a0, .int .i64 a1, .int .i64 a2]) := (hF.out.2.2.2.2.2.2.1) (hall 5 (by decide))
  have e6 : s 18 = .pointer (some ⟨D, 0, none⟩) := (hF.out.2.2.2.2.2.2.2.1) (hall 6 (by decide))
  rw [e0, e1, e2, e3, e4, e5, e6]
  clear hall hF e0 e1 e2 e3 e4 e5 e6
  clear d s b
  have HDn : Hid (Own D [.int .i64 a0, .int .i64 a1, .int .i64 a2, .int .i64 m1, .int .i64 m4, .int .i64 m7, .int .i64 m2, .int .i64 m5, .int .i64 m8, .int .i64 tx, .int .i64 ty, .int .i64 tz] (y0.setCells D 0 [.int .i64 a0, .int .i64 a1, .int .i64 a2])) := Lib.hid (show Own D (over _ 0 [.int .i64 a0, .int .i64 a1, .int .i64 a2]) _ from Own.part (HD.out.later hB) (by simp))
  have HGn : Hid (Own G [.int .i64 n0, .int .i64 n1, .int .i64 n2, .int .i64 n3, .int .i64 n4, .int .i64 n5, .int .i64 n6, .int .i64 n7, .int .i64 n8, .int .i64 ux, .int .i64 uy, .int .i64 uz] (y0.setCells D 0 [.int .i64 a0, .int .i64 a1, .int .i64 a2])) := Lib.hid (Own.far (o := 0) (vs := [.int .i64 a0, .int .i64 a1, .int .i64 a2]) (HG.out.later hB) nGD)
  have HRn : Hid (Own R [.int .i64 0, .int .i64 0, .int .i64 0, .int .i64 0, .int .i64 0, .int .i64 0, .int .i64 0, .int .i64 0, .int .i64 0, .int .i64 0, .int .i64 0, .int .i64 0] (y0.setCells D 0 [.int .i64 a0, .int .i64 a1, .int .i64 a2])) := Lib.hid (Own.far (o := 0) (vs := [.int .i64 a0, .int .i64 a1, .int .i64 a2]) (HR.out.later hB) nRD)
  have V1b : Below w.heap.size w (y0.setCells D 0 [.int .i64 a0, .int .i64 a1, .int .i64 a2]) := Below.setCells (Below.go hB2 hB) Dw [.int .i64 a0, .int .i64 a1, .int .i64 a2] 0
  generalize (y0.setCells D 0 [.int .i64 a0, .int .i64 a1, .int .i64 a2]) = V1 at *
  clear HD HG HR hB
  have HD := HDn
  clear HDn
  have HG := HGn
  clear HGn
  have HR := HRn
  clear HRn
  clear hB2
  go_wp2_with (fail)
  rw [rounds_succ]
  go_wp2_with (fail)
  refine wp_region_fun 8 (by kernel_rfl) (by kernel_rfl) rfl (fun s b => ⟨#[(.agg #[.int .i64 m0, .int .i64 m1, .int .i64 m2, .int .i64 m3, .int .i64 m4, .int .i64 m5, .int .i64 m6, .int .i64 m7, .int .i64 m8, .int .i64 tx, .int .i64 ty, .int .i64 tz]), (.agg #[.int .i64 n0, .int .i64 n1, .int .i64 n2, .int .i64 n3, .int .i64 n4, .int .i64 n5, .int .i64 n6, .int .i64 n7, .int .i64 n8, .int .i64 ux, .int .i64 uy, .int .i64 uz]), .pointer (some ⟨A, 0, none⟩), .pointer (some ⟨G, 0, none⟩), .pointer (some ⟨R, 0, none⟩), .pointer (some ⟨D, 0, none⟩), .int .i64 1, (.agg #[.int .i64 m0, .int .i64 m1, .int .i64 m2, .int .i64 m3, .int .i64 m4, .int .i64 m5, .int .i64 m6, .int .i64 m7, .int .i64 m8, .int .i64 tx, .int .i64 ty, .int .i64 tz]), (.agg #[.int .i64 m0, .int .i64 m3, .int .i64 m6, .int .i64 m1, .int .i64 m4, .int .i64 m7, .int .i64 m2, .int .i64 m5, .int .i64 m8, .int .i64 tx, .int .i64 ty, .int .i64 tz]), .int .i64 1, .bool true, .int .i64 1, s 12, s 13, s 14, s 15, s 16, s 17, s 18, .int .i64 1, undef, undef, undef, undef, undef, undef, undef], []⟩) (fun d s b w => (d 7 = false → Below V1.heap.size V1 w) ∧ (d 0 = true → s 12 = .int .i64 1) ∧ (d 1 = true → s 13 = (.agg #[.int .i64 n0, .int .i64 n1, .int .i64 n2, .int .i64 n3, .int .i64 n4, .int .i64 n5, .int .i64 n6, .int .i64 n7, .int .i64 n8, .int .i64 ux, .int .i64 uy, .int .i64 uz])) ∧ (d 2 = true → s 14 = .int .i64 1) ∧ (d 3 = true → s 15 = .pointer (some ⟨D, 3, none⟩)) ∧ (d 4 = true → s 16 = (.agg #[.int .i64 m1, .int .i64 m4, .int .i64 m7])) ∧ (d 5 = true → s 17 = (.agg #[.int .i64 b0, .int .i64 b1, .int .i64 b2])) ∧ (d 6 = true → s 18 = .pointer (some ⟨D, 3, none⟩)) ∧ (d 7 = true → ∀ j, j < 7 → d j = true) ∧ (d 7 = true → ∃ w2, Below V1.heap.size V1 w2 ∧ w = w2.setCells D 3 [.int .i64 b0, .int .i64 b1, .int .i64 b2])) rfl ?h0y1 (?sty1 : StepsF _ _ _ _ 8 _ _ [0, 1, 2, 3, 4, 5, 6, 7]) ?dny1
  case h0y1 => exact ⟨fun _ => Below.drew (Below.refl _ _), (fun h => nomatch h), (fun h => nomatch h), (fun h => nomatch h), (fun h => nomatch h), (fun h => nomatch h), (fun h => nomatch h), (fun h => nomatch h), (fun h => nomatch h), (fun h => nomatch h)⟩
  case sty1 =>
    refine StepsF.cons (o := _) rfl (ws := []) (by kernel_rfl) (by decide) (fun d s b w hF hd hw K hK => ?_) ?_
    · have hk : d 7 = false := by cases e : d 7 with | false => rfl | true => exact absurd ((hF.out.2.2.2.2.2.2.2.2.1) e 0 (by decide)) (by simp [hd])
      have hB : Below V1.heap.size V1 w := (hF.out.1) hk
      dsimp only
      go_simp
      exact hK.out (ups s 12 (.int .i64 1)) b _ ⟨(fun _ => hB), (fun _ => rfl), (hF.out.2.2.1), (hF.out.2.2.2.1), (hF.out.2.2.2.2.1), (hF.out.2.2.2.2.2.1), (hF.out.2.2.2.2.2.2.1), (hF.out.2.2.2.2.2.2.2.1), (fun h => absurd ((hF.out.2.2.2.2.2.2.2.2.1) h 0 (by decide)) (by simp [hd])), (fun h => absurd ((hF.out.2.2.2.2.2.2.2.2.1) h 0 (by decide)) (by simp [hd]))⟩
    refine StepsF.cons (o := _) rfl (ws := []) (by kernel_rfl) (by decide) (fun d s b w hF hd hw K hK => ?_) ?_
    · have hk : d 7 = false := by cases e : d 7 with | false => rfl | true => exact absurd ((hF.out.2.2.2.2.2.2.2.2.1) e 1 (by decide)) (by simp [hd])
      have hB : Below V1.heap.size V1 w := (hF.out.1) hk
      dsimp only
      have og := HG.out.later hB
      have g0 := og.at 0 _ rfl
      have g1 := og.at 1 _ rfl
      have g2 := og.at 2 _ rfl
      have g3 := og.at 3 _ rfl
      have g4 := og.at 4 _ rfl
      have g5 := og.at 5 _ rfl
      have g6 := og.at 6 _ rfl
      have g7 := og.at 7 _ rfl
      have g8 := og.at 8 _ rfl
      have g9 := og.at 9 _ rfl
      have g10 := og.at 10 _ rfl
      have g11 := og.at 11 _ rfl
      clear og
      have od := HD.out.later hB
      have d3 := od.at 3 _ rfl
      have d4 := od.at 4 _ rfl
      have d5 := od.at 5 _ rfl
      clear od
      go_simp
      exact hK.out (ups s 13 ((.agg #[.int .i64 n0, .int .i64 n1, .int .i64 n2, .int .i64 n3, .int .i64 n4, .int .i64 n5, .int .i64 n6, .int .i64 n7, .int .i64 n8, .int .i64 ux, .int .i64 uy, .int .i64 uz]))) b _ ⟨(fun _ => hB), (hF.out.2.1), (fun _ => rfl), (hF.out.2.2.2.1), (hF.out.2.2.2.2.1), (hF.out.2.2.2.2.2.1), (hF.out.2.2.2.2.2.2.1), (hF.out.2.2.2.2.2.2.2.1), (fun h => absurd ((hF.out.2.2.2.2.2.2.2.2.1) h 1 (by decide)) (by simp [hd])), (fun h => absurd ((hF.out.2.2.2.2.2.2.2.2.1) h 1 (by decide)) (by simp [hd]))⟩
    refine StepsF.cons (o := _) rfl (ws := []) (by kernel_rfl) (by decide) (fun d s b w hF hd hw K hK => ?_) ?_
    · have hk : d 7 = false := by cases e : d 7 with | false => rfl | true => exact absurd ((hF.out.2.2.2.2.2.2.2.2.1) e 2 (by decide)) (by simp [hd])
      have hB : Below V1.heap.size V1 w := (hF.out.1) hk
      dsimp only
      go_simp
      exact hK.out (ups s 14 (.int .i64 1)) b _ ⟨(fun _ => hB), (hF.out.2.1), (hF.out.2.2.1), (fun _ => rfl), (hF.out.2.2.2.2.1), (hF.out.2.2.2.2.2.1), (hF.out.2.2.2.2.2.2.1), (hF.out.2.2.2.2.2.2.2.1), (fun h => absurd ((hF.out.2.2.2.2.2.2.2.2.1) h 2 (by decide)) (by simp [hd])), (fun h => absurd ((hF.out.2.2.2.2.2.2.2.2.1) h 2 (by decide)) (by simp [hd]))⟩
    refine StepsF.cons (o := _) rfl (ws := [2]) (by kernel_rfl) (by decide) (fun d s b w hF hd hw K hK => ?_) ?_
    · have hk : d 7 = false := by cases e : d 7 with | false => rfl | true => exact absurd ((hF.out.2.2.2.2.2.2.2.2.1) e 3 (by decide)) (by simp [hd])
      have hB : Below V1.heap.size V1 w := (hF.out.1) hk
      have e2 : s 14 = .int .i64 1 := (hF.out.2.2.2.1) (hw 2 (by decide))
      dsimp only
      go_simp
      exact hK.out (ups (ups s 14 (.int .i64 1)) 15 (.pointer (some ⟨D, 3, none⟩))) b _ ⟨(fun _ => hB), (hF.out.2.1), (hF.out.2.2.1), (fun _ => rfl), (fun _ => rfl), (hF.out.2.2.2.2.2.1), (hF.out.2.2.2.2.2.2.1), (hF.out.2.2.2.2.2.2.2.1), (fun h => absurd ((hF.out.2.2.2.2.2.2.2.2.1) h 3 (by decide)) (by simp [hd])), (fun h => absurd ((hF.out.2.2.2.2.2.2.2.2.1) h 3 (by decide)) (by simp [hd]))⟩
    refine StepsF.cons (o := _) rfl (ws := [3]) (by kernel_rfl) (by decide) (fun d s b w hF hd hw K hK => ?_) ?_
    · have hk : d 7 = false := by cases e : d 7 with | false => rfl | true => exact absurd ((hF.out.2.2.2.2.2.2.2.2.1) e 4 (by decide)) (by simp [hd])
      have hB : Below V1.heap.size V1 w := (hF.out.1) hk
      have e3 : s 15 = .pointer (some ⟨D, 3, none⟩) := (hF.out.2.2.2.2.1) (hw 3 (by decide))
      dsimp only
      have og := HG.out.later hB
      have g0 := og.at 0 _ rfl
      have g1 := og.at 1 _ rfl
      have g2 := og.at 2 _ rfl
      have g3 := og.at 3 _ rfl
      have g4 := og.at 4 _ rfl
      have g5 := og.at 5 _ rfl
      have g6 := og.at 6 _ rfl
      have g7 := og.at 7 _ rfl
      have g8 := og.at 8 _ rfl
      have g9 := og.at 9 _ rfl
      have g10 := og.at 10 _ rfl
      have g11 := og.at 11 _ rfl
      clear og
      have od := HD.out.later hB
      have d3 := od.at 3 _ rfl
      have d4 := od.at 4 _ rfl
      have d5 := od.at 5 _ rfl
      clear od
      go_simp
      exact hK.out (ups (ups s 15 (.pointer (some ⟨D, 3, none⟩))) 16 ((.agg #[.int .i64 m1, .int .i64 m4, .int .i64 m7]))) b _ ⟨(fun _ => hB), (hF.out.2.1), (hF.out.2.2.1), (hF.out.2.2.2.1), (fun _ => rfl), (fun _ => rfl), (hF.out.2.2.2.2.2.2.1), (hF.out.2.2.2.2.2.2.2.1), (fun h => absurd ((hF.out.2.2.2.2.2.2.2.2.1) h 4 (by decide)) (by simp [hd])), (fun h => absurd ((hF.out.2.2.2.2.2.2.2.2.1) h 4 (by decide)) (by simp [hd]))⟩
    refine StepsF.cons (o := _) rfl (ws := [1, 4]) (by kernel_rfl) (by decide) (fun d s b w hF hd hw K hK => ?_) ?_
    · have hk : d 7 = false := by cases e : d 7 with | false => rfl | true => exact absurd ((hF.out.2.2.2.2.2.2.2.2.1) e 5 (by decide)) (by simp [hd])
      have hB : Below V1.heap.size V1 w := (hF.out.1) hk
      have e1 : s 13 = (.agg #[.int .i64 n0, .int .i64 n1, .int .i64 n2, .int .i64 n3, .int .i64 n4, .int .i64 n5, .int .i64 n6, .int .i64 n7, .int .i64 n8, .int .i64 ux, .int .i64 uy, .int .i64 uz]) := (hF.out.2.2.1) (hw 1 (by decide))
      have e4 : s 16 = (.agg #[.int .i64 m1, .int .i64 m4, .int .i64 m7]) := (hF.out.2.2.2.2.2.1) (hw 4 (by decide))
      dsimp only
      go_simp
      go_at_call 107
      refine (k1.out _).mono ?_
      rintro e w1 ⟨rfl, hb⟩
      exact hK.out (ups (ups (ups s 13 ((.agg #[.int .i64 n0, .int .i64 n1, .int .i64 n2, .int .i64 n3, .int .i64 n4, .int .i64 n5, .int .i64 n6, .int .i64 n7, .int .i64 n8, .int .i64 ux, .int .i64 uy, .int .i64 uz]))) 16 ((.agg #[.int .i64 m1, .int .i64 m4, .int .i64 m7]))) 17 ((.agg #[.int .i64 b0, .int .i64 b1, .int .i64 b2]))) b _ ⟨(fun _ => (Below.go hB hb)), (hF.out.2.1), (fun _ => rfl), (hF.out.2.2.2.1), (hF.out.2.2.2.2.1), (fun _ => rfl), (fun _ => rfl), (hF.out.2.2.2.2.2.2.2.1), (fun h => absurd ((hF.out.2.2.2.2.2.2.2.2.1) h 5 (by decide)) (by simp [hd])), (fun h => absurd ((hF.out.2.2.2.2.2.2.2.2.1) h 5 (by decide)) (by simp [hd]))⟩
    refine StepsF.cons (o := _) rfl (ws := [0, 0, 1, 2, 3, 4, 5]) (by kernel_rfl) (by decide) (fun d s b w hF hd hw K hK => ?_) ?_
    · have hk : d 7 = false := by cases e : d 7 with | false => rfl | true => exact absurd ((hF.out.2.2.2.2.2.2.2.2.1) e 6 (by decide)) (by simp [hd])
      have hB : Below V1.heap.size V1 w := (hF.out.1) hk
      have e0 : s 12 = .int .i64 1 := (hF.out.2.1) (hw 0 (by decide))
      have e1 : s 13 = (.agg #[.int .i64 n0, .int .i64 n1, .int .i64 n2, .int .i64 n3, .int .i64 n4, .int .i64 n5, .int .i64 n6, .int .i64 n7, .int .i64 n8, .int .i64 ux, .int .i64 uy, .int .i64 uz]) := (hF.out.2.2.1) (hw 1 (by decide))
      have e2 : s 14 = .int .i64 1 := (hF.out.2.2.2.1) (hw 2 (by decide))
      have e3 : s 15 = .pointer (some ⟨D, 3, none⟩) := (hF.out.2.2.2.2.1) (hw 3 (by decide))
      have e4 : s 16 = (.agg #[.int .i64 m1, .int .i64 m4, .int .i64 m7]) := (hF.out.2.2.2.2.2.1) (hw 4 (by decide))
      have e5 : s 17 = (.agg #[.int .i64 b0, .int .i64 b1, .int .i64 b2]) := (hF.out.2.2.2.2.2.2.1) (hw 5 (by decide))
      dsimp only
      go_simp
      exact hK.out (ups (ups (ups (ups (ups (ups (ups s 12 (.int .i64 1)) 13 ((.agg #[.int .i64 n0, .int .i64 n1, .int .i64 n2, .int .i64 n3, .int .i64 n4, .int .i64 n5, .int .i64 n6, .int .i64 n7, .int .i64 n8, .int .i64 ux, .int .i64 uy, .int .i64 uz]))) 14 (.int .i64 1)) 15 (.pointer (some ⟨D, 3, none⟩))) 16 ((.agg #[.int .i64 m1, .int .i64 m4, .int .i64 m7]))) 17 ((.agg #[.int .i64 b0, .int .i64 b1, .int .i64 b2]))) 18 (.pointer (some ⟨D, 3, none⟩))) b _ ⟨(fun _ => hB), (fun _ => rfl), (fun _ => rfl), (fun _ => rfl), (fun _ => rfl), (fun _ => rfl), (fun _ => rfl), (fun _ => rfl), (fun h => absurd ((hF.out.2.2.2.2.2.2.2.2.1) h 6 (by decide)) (by simp [hd])), (fun h => absurd ((hF.out.2.2.2.2.2.2.2.2.1) h 6 (by decide)) (by simp [hd]))⟩
    refine StepsF.cons (o := _) rfl (ws := [6, 5, 5, 0, 1, 2, 3, 4, 5]) (by kernel_rfl) (by decide) (fun d s b w hF hd hw K hK => ?_) ?_
    · have hB : Below V1.heap.size V1 w := (hF.out.1) hd
      have e0 : s 12 = .int .i64 1 := (hF.out.2.1) (hw 0 (by decide))
      have e1 : s 13 = (.agg #[.int .i64 n0, .int .i64 n1, .int .i64 n2, .int .i64 n3, .int .i64 n4, .int .i64 n5, .int .i64 n6, .int .i64 n7, .int .i64 n8, .int .i64 ux, .int .i64 uy, .int .i64 uz]) := (hF.out.2.2.1) (hw 1 (by decide))
      have e2 : s 14 = .int .i64 1 := (hF.out.2.2.2.1) (hw 2 (by decide))
      have e3 : s 15 = .pointer (some ⟨D, 3, none⟩) := (hF.out.2.2.2.2.1) (hw 3 (by decide))
      have e4 : s 16 = (.agg #[.int .i64 m1, .int .i64 m4, .int .i64 m7]) := (hF.out.2.2.2.2.2.1) (hw 4 (by decide))
      have e5 : s 17 = (.agg #[.int .i64 b0, .int .i64 b1, .int .i64 b2]) := (hF.out.2.2.2.2.2.2.1) (hw 5 (by decide))
      have e6 : s 18 = .pointer (some ⟨D, 3, none⟩) := (hF.out.2.2.2.2.2.2.2.1) (hw 6 (by decide))
      dsimp only
      have oX := HD.out.later hB
      have fr3 := oX.ok 3 (by simp)
      have fr4 := oX.ok 4 (by simp)
      have fr5 := oX.ok 5 (by simp)
      have ce3 := oX.at 3 _ rfl
      have ce4 := oX.at 4 _ rfl
      have ce5 := oX.at 5 _ rfl
      clear oX
      go_simp
      exact hK.out (ups (ups (ups (ups (ups (ups (ups s 12 (.int .i64 1)) 13 ((.agg #[.int .i64 n0, .int .i64 n1, .int .i64 n2, .int .i64 n3, .int .i64 n4, .int .i64 n5, .int .i64 n6, .int .i64 n7, .int .i64 n8, .int .i64 ux, .int .i64 uy, .int .i64 uz]))) 14 (.int .i64 1)) 15 (.pointer (some ⟨D, 3, none⟩))) 16 ((.agg #[.int .i64 m1, .int .i64 m4, .int .i64 m7]))) 17 ((.agg #[.int .i64 b0, .int .i64 b1, .int .i64 b2]))) 18 (.pointer (some ⟨D, 3, none⟩))) b _ ⟨(fun h => nomatch h), (fun _ => rfl), (fun _ => rfl), (fun _ => rfl), (fun _ => rfl), (fun _ => rfl), (fun _ => rfl), (fun _ => rfl), (fun _ j hj => by have hj2 := hw j (by simp; omega); simp [upd, hj2]), (fun _ => ⟨w, hB, rfl⟩)⟩
    exact StepsF.nil
  intro d s b y1 hF hall
  replace hF := Lib.hid hF
  obtain ⟨y1, hB, rfl⟩ := (hF.out.2.2.2.2.2.2.2.2.2) (hall 7 (by decide))
  try dsimp only
  have e0 : s 12 = .int .i64 1 := (hF.out.2.1) (hall 0 (by decide))
  have e1 : s 13 = (.agg #[.int .i64 n0, .int .i64 n1, .int .i64 n2, .int .i64 n3, .int .i64 n4, .int .i64 n5, .int .i64 n6, .int .i64 n7, .int .i64 n8, .int .i64 ux, .int .i64 uy, .int .i64 uz]) := (hF.out.2.2.1) (hall 1 (by decide))
  have e2 : s 14 = .int .i64 1 := (hF.out.2.2.2.1) (hall 2 (by decide))
  have e3 : s 15 = .pointer (some ⟨D, 3, none⟩) := (hF.out.2.2.2.2.1) (hall 3 (by decide))
  have e4 : s 16 = (.agg #[.int .i64 m1, .int .i64 m4, .int .i64 m7]) := (hF.out.2.2.2.2.2.1) (hall 4 (by decide))
  have e5 : s 17 = (.agg #[.int .i64 b0, .int .i64 b1, .int .i64 b2]) := (hF.out.2.2.2.2.2.2.1) (hall 5 (by decide))
  have e6 : s 18 = .pointer (some ⟨D, 3, none⟩) := (hF.out.2.2.2.2.2.2.2.1) (hall 6 (by decide))
  rw [e0, e1, e2, e3, e4, e5, e6]
  clear hall hF e0 e1 e2 e3 e4 e5 e6
  clear d s b
  have HDn : Hid (Own D [.int .i64 a0, .int .i64 a1, .int .i64 a2, .int .i64 b0, .int .i64 b1, .int .i64 b2, .int .i64 m2, .int .i64 m5, .int .i64 m8, .int .i64 tx, .int .i64 ty, .int .i64 tz] (y1.setCells D 3 [.int .i64 b0, .int .i64 b1, .int .i64 b2])) := Lib.hid (show Own D (over _ 3 [.int .i64 b0, .int .i64 b1, .int .i64 b2]) _ from Own.part (HD.out.later hB) (by simp))
  have HGn : Hid (Own G [.int .i64 n0, .int .i64 n1, .int .i64 n2, .int .i64 n3, .int .i64 n4, .int .i64 n5, .int .i64 n6, .int .i64 n7, .int .i64 n8, .int .i64 ux, .int .i64 uy, .int .i64 uz] (y1.setCells D 3 [.int .i64 b0, .int .i64 b1, .int .i64 b2])) := Lib.hid (Own.far (o := 3) (vs := [.int .i64 b0, .int .i64 b1, .int .i64 b2]) (HG.out.later hB) nGD)
  have HRn : Hid (Own R [.int .i64 0, .int .i64 0, .int .i64 0, .int .i64 0, .int .i64 0, .int .i64 0, .int .i64 0, .int .i64 0, .int .i64 0, .int .i64 0, .int .i64 0, .int .i64 0] (y1.setCells D 3 [.int .i64 b0, .int .i64 b1, .int .i64 b2])) := Lib.hid (Own.far (o := 3) (vs := [.int .i64 b0, .int .i64 b1, .int .i64 b2]) (HR.out.later hB) nRD)
  have V2b : Below w.heap.size w (y1.setCells D 3 [.int .i64 b0, .int .i64 b1, .int .i64 b2]) := Below.setCells (Below.go V1b hB) Dw [.int .i64 b0, .int .i64 b1, .int .i64 b2] 3
  generalize (y1.setCells D 3 [.int .i64 b0, .int .i64 b1, .int .i64 b2]) = V2 at *
  clear HD HG HR hB
  have HD := HDn
  clear HDn
  have HG := HGn
  clear HGn
  have HR := HRn
  clear HRn
  clear V1b
  go_wp2_with (fail)
  rw [rounds_succ]
  go_wp2_with (fail)
  refine wp_region_fun 8 (by kernel_rfl) (by kernel_rfl) rfl (fun s b => ⟨#[(.agg #[.int .i64 m0, .int .i64 m1, .int .i64 m2, .int .i64 m3, .int .i64 m4, .int .i64 m5, .int .i64 m6, .int .i64 m7, .int .i64 m8, .int .i64 tx, .int .i64 ty, .int .i64 tz]), (.agg #[.int .i64 n0, .int .i64 n1, .int .i64 n2, .int .i64 n3, .int .i64 n4, .int .i64 n5, .int .i64 n6, .int .i64 n7, .int .i64 n8, .int .i64 ux, .int .i64 uy, .int .i64 uz]), .pointer (some ⟨A, 0, none⟩), .pointer (some ⟨G, 0, none⟩), .pointer (some ⟨R, 0, none⟩), .pointer (some ⟨D, 0, none⟩), .int .i64 2, (.agg #[.int .i64 m0, .int .i64 m1, .int .i64 m2, .int .i64 m3, .int .i64 m4, .int .i64 m5, .int .i64 m6, .int .i64 m7, .int .i64 m8, .int .i64 tx, .int .i64 ty, .int .i64 tz]), (.agg #[.int .i64 m0, .int .i64 m3, .int .i64 m6, .int .i64 m1, .int .i64 m4, .int .i64 m7, .int .i64 m2, .int .i64 m5, .int .i64 m8, .int .i64 tx, .int .i64 ty, .int .i64 tz]), .int .i64 2, .bool true, .int .i64 2, s 12, s 13, s 14, s 15, s 16, s 17, s 18, .int .i64 2, undef, undef, undef, undef, undef, undef, undef], []⟩) (fun d s b w => (d 7 = false → Below V2.heap.size V2 w) ∧ (d 0 = true → s 12 = .int .i64 2) ∧ (d 1 = true → s 13 = (.agg #[.int .i64 n0, .int .i64 n1, .int .i64 n2, .int .i64 n3, .int .i64 n4, .int .i64 n5, .int .i64 n6, .int .i64 n7, .int .i64 n8, .int .i64 ux, .int .i64 uy, .int .i64 uz])) ∧ (d 2 = true → s 14 = .int .i64 2) ∧ (d 3 = true → s 15 = .pointer (some ⟨D, 6, none⟩)) ∧ (d 4 = true → s 16 = (.agg #[.int .i64 m2, .int .i64 m5, .int .i64 m8])) ∧ (d 5 = true → s 17 = (.agg #[.int .i64 c0, .int .i64 c1, .int .i64 c2])) ∧ (d 6 = true → s 18 = .pointer (some ⟨D, 6, none⟩)) ∧ (d 7 = true → ∀ j, j < 7 → d j = true) ∧ (d 7 = true → ∃ w2, Below V2.heap.size V2 w2 ∧ w = w2.setCells D 6 [.int .i64 c0, .int .i64 c1, .int .i64 c2])) rfl ?h0y2 (?sty2 : StepsF _ _ _ _ 8 _ _ [0, 1, 2, 3, 4, 5, 6, 7]) ?dny2
  case h0y2 => exact ⟨fun _ => Below.drew (Below.refl _ _), (fun h => nomatch h), (fun h => nomatch h), (fun h => nomatch h), (fun h => nomatch h), (fun h => nomatch h), (fun h => nomatch h), (fun h => nomatch h), (fun h => nomatch h), (fun h => nomatch h)⟩
  case sty2 =>
    refine StepsF.cons (o := _) rfl (ws := []) (by kernel_rfl) (by decide) (fun d s b w hF hd hw K hK => ?_) ?_
    · have hk : d 7 = false := by cases e : d 7 with | false => rfl | true => exact absurd ((hF.out.2.2.2.2.2.2.2.2.1) e 0 (by decide)) (by simp [hd])
      have hB : Below V2.heap.size V2 w := (hF.out.1) hk
      dsimp only
      go_simp
      exact hK.out (ups s 12 (.int .i64 2)) b _ ⟨(fun _ => hB), (fun _ => rfl), (hF.out.2.2.1), (hF.out.2.2.2.1), (hF.out.2.2.2.2.1), (hF.out.2.2.2.2.2.1), (hF.out.2.2.2.2.2.2.1), (hF.out.2.2.2.2.2.2.2.1), (fun h => absurd ((hF.out.2.2.2.2.2.2.2.2.1) h 0 (by decide)) (by simp [hd])), (fun h => absurd ((hF.out.2.2.2.2.2.2.2.2.1) h 0 (by decide)) (by simp [hd]))⟩
    refine StepsF.cons (o := _) rfl (ws := []) (by kernel_rfl) (by decide) (fun d s b w hF hd hw K hK => ?_) ?_
    · have hk : d 7 = false := by cases e : d 7 with | false => rfl | true => exact absurd ((hF.out.2.2.2.2.2.2.2.2.1) e 1 (by decide)) (by simp [hd])
      have hB : Below V2.heap.size V2 w := (hF.out.1) hk
      dsimp only
      have og := HG.out.later hB
      have g0 := og.at 0 _ rfl
      have g1 := og.at 1 _ rfl
      have g2 := og.at 2 _ rfl
      have g3 := og.at 3 _ rfl
      have g4 := og.at 4 _ rfl
      have g5 := og.at 5 _ rfl
      have g6 := og.at 6 _ rfl
      have g7 := og.at 7 _ rfl
      have g8 := og.at 8 _ rfl
      have g9 := og.at 9 _ rfl
      have g10 := og.at 10 _ rfl
      have g11 := og.at 11 _ rfl
      clear og
      have od := HD.out.later hB
      have d6 := od.at 6 _ rfl
      have d7 := od.at 7 _ rfl
      have d8 := od.at 8 _ rfl
      clear od
      go_simp
      exact hK.out (ups s 13 ((.agg #[.int .i64 n0, .int .i64 n1, .int .i64 n2, .int .i64 n3, .int .i64 n4, .int .i64 n5, .int .i64 n6, .int .i64 n7, .int .i64 n8, .int .i64 ux, .int .i64 uy, .int .i64 uz]))) b _ ⟨(fun _ => hB), (hF.out.2.1), (fun _ => rfl), (hF.out.2.2.2.1), (hF.out.2.2.2.2.1), (hF.out.2.2.2.2.2.1), (hF.out.2.2.2.2.2.2.1), (hF.out.2.2.2.2.2.2.2.1), (fun h => absurd ((hF.out.2.2.2.2.2.2.2.2.1) h 1 (by decide)) (by simp [hd])), (fun h => absurd ((hF.out.2.2.2.2.2.2.2.2.1) h 1 (by decide)) (by simp [hd]))⟩
    refine StepsF.cons (o := _) rfl (ws := []) (by kernel_rfl) (by decide) (fun d s b w hF hd hw K hK => ?_) ?_
    · have hk : d 7 = false := by cases e : d 7 with | false => rfl | true => exact absurd ((hF.out.2.2.2.2.2.2.2.2.1) e 2 (by decide)) (by simp [hd])
      have hB : Below V2.heap.size V2 w := (hF.out.1) hk
      dsimp only
      go_simp
      exact hK.out (ups s 14 (.int .i64 2)) b _ ⟨(fun _ => hB), (hF.out.2.1), (hF.out.2.2.1), (fun _ => rfl), (hF.out.2.2.2.2.1), (hF.out.2.2.2.2.2.1), (hF.out.2.2.2.2.2.2.1), (hF.out.2.2.2.2.2.2.2.1), (fun h => absurd ((hF.out.2.2.2.2.2.2.2.2.1) h 2 (by decide)) (by simp [hd])), (fun h => absurd ((hF.out.2.2.2.2.2.2.2.2.1) h 2 (by decide)) (by simp [hd]))⟩
    refine StepsF.cons (o := _) rfl (ws := [2]) (by kernel_rfl) (by decide) (fun d s b w hF hd hw K hK => ?_) ?_
    · have hk : d 7 = false := by cases e : d 7 with | false => rfl | true => exact absurd ((hF.out.2.2.2.2.2.2.2.2.1) e 3 (by decide)) (by simp [hd])
      have hB : Below V2.heap.size V2 w := (hF.out.1) hk
      have e2 : s 14 = .int .i64 2 := (hF.out.2.2.2.1) (hw 2 (by decide))
      dsimp only
      go_simp
      exact hK.out (ups (ups s 14 (.int .i64 2)) 15 (.pointer (some ⟨D, 6, none⟩))) b _ ⟨(fun _ => hB), (hF.out.2.1), (hF.out.2.2.1), (fun _ => rfl), (fun _ => rfl), (hF.out.2.2.2.2.2.1), (hF.out.2.2.2.2.2.2.1), (hF.out.2.2.2.2.2.2.2.1), (fun h => absurd ((hF.out.2.2.2.2.2.2.2.2.1) h 3 (by decide)) (by simp [hd])), (fun h => absurd ((hF.out.2.2.2.2.2.2.2.2.1) h 3 (by decide)) (by simp [hd]))⟩
    refine StepsF.cons (o := _) rfl (ws := [3]) (by kernel_rfl) (by decide) (fun d s b w hF hd hw K hK => ?_) ?_
    · have hk : d 7 = false := by cases e : d 7 with | false => rfl | true => exact absurd ((hF.out.2.2.2.2.2.2.2.2.1) e 4 (by decide)) (by simp [hd])
      have hB : Below V2.heap.size V2 w := (hF.out.1) hk
      have e3 : s 15 = .pointer (some ⟨D, 6, none⟩) := (hF.out.2.2.2.2.1) (hw 3 (by decide))
      dsimp only
      have og := HG.out.later hB
      have g0 := og.at 0 _ rfl
      have g1 := og.at 1 _ rfl
      have g2 := og.at 2 _ rfl
      have g3 := og.at 3 _ rfl
      have g4 := og.at 4 _ rfl
      have g5 := og.at 5 _ rfl
      have g6 := og.at 6 _ rfl
      have g7 := og.at 7 _ rfl
      have g8 := og.at 8 _ rfl
      have g9 := og.at 9 _ rfl
      have g10 := og.at 10 _ rfl
      have g11 := og.at 11 _ rfl
      clear og
      have od := HD.out.later hB
      have d6 := od.at 6 _ rfl
      have d7 := od.at 7 _ rfl
      have d8 := od.at 8 _ rfl
      clear od
      go_simp
      exact hK.out (ups (ups s 15 (.pointer (some ⟨D, 6, none⟩))) 16 ((.agg #[.int .i64 m2, .int .i64 m5, .int .i64 m8]))) b _ ⟨(fun _ => hB), (hF.out.2.1), (hF.out.2.2.1), (hF.out.2.2.2.1), (fun _ => rfl), (fun _ => rfl), (hF.out.2.2.2.2.2.2.1), (hF.out.2.2.2.2.2.2.2.1), (fun h => absurd ((hF.out.2.2.2.2.2.2.2.2.1) h 4 (by decide)) (by simp [hd])), (fun h => absurd ((hF.out.2.2.2.2.2.2.2.2.1) h 4 (by decide)) (by simp [hd]))⟩
    refine StepsF.cons (o := _) rfl (ws := [1, 4]) (by kernel_rfl) (by decide) (fun d s b w hF hd hw K hK => ?_) ?_
    · have hk : d 7 = false := by cases e : d 7 with | false => rfl | true => exact absurd ((hF.out.2.2.2.2.2.2.2.2.1) e 5 (by decide)) (by simp [hd])
      have hB : Below V2.heap.size V2 w := (hF.out.1) hk
      have e1 : s 13 = (.agg #[.int .i64 n0, .int .i64 n1, .int .i64 n2, .int .i64 n3, .int .i64 n4, .int .i64 n5, .int .i64 n6, .int .i64 n7, .int .i64 n8, .int .i64 ux, .int .i64 uy, .int .i64 uz]) := (hF.out.2.2.1) (hw 1 (by decide))
      have e4 : s 16 = (.agg #[.int .i64 m2, .int .i64 m5, .int .i64 m8]) := (hF.out.2.2.2.2.2.1) (hw 4 (by decide))
      dsimp only
      go_simp
      go_at_call 107
      refine (k2.out _).mono ?_
      rintro e w1 ⟨rfl, hb⟩
      exact hK.out (ups (ups (ups s 13 ((.agg #[.int .i64 n0, .int .i64 n1, .int .i64 n2, .int .i64 n3, .int .i64 n4, .int .i64 n5, .int .i64 n6, .int .i64 n7, .int .i64 n8, .int .i64 ux, .int .i64 uy, .int .i64 uz]))) 16 ((.agg #[.int .i64 m2, .int .i64 m5, .int .i64 m8]))) 17 ((.agg #[.int .i64 c0, .int .i64 c1, .int .i64 c2]))) b _ ⟨(fun _ => (Below.go hB hb)), (hF.out.2.1), (fun _ => rfl), (hF.out.2.2.2.1), (hF.out.2.2.2.2.1), (fun _ => rfl), (fun _ => rfl), (hF.out.2.2.2.2.2.2.2.1), (fun h => absurd ((hF.out.2.2.2.2.2.2.2.2.1) h 5 (by decide)) (by simp [hd])), (fun h => absurd ((hF.out.2.2.2.2.2.2.2.2.1) h 5 (by decide)) (by simp [hd]))⟩
    refine StepsF.cons (o := _) rfl (ws := [0, 0, 1, 2, 3, 4, 5]) (by kernel_rfl) (by decide) (fun d s b w hF hd hw K hK => ?_) ?_
    · have hk : d 7 = false := by cases e : d 7 with | false => rfl | true => exact absurd ((hF.out.2.2.2.2.2.2.2.2.1) e 6 (by decide)) (by simp [hd])
      have hB : Below V2.heap.size V2 w := (hF.out.1) hk
      have e0 : s 12 = .int .i64 2 := (hF.out.2.1) (hw 0 (by decide))
      have e1 : s 13 = (.agg #[.int .i64 n0, .int .i64 n1, .int .i64 n2, .int .i64 n3, .int .i64 n4, .int .i64 n5, .int .i64 n6, .int .i64 n7, .int .i64 n8, .int .i64 ux, .int .i64 uy, .int .i64 uz]) := (hF.out.2.2.1) (hw 1 (by decide))
      have e2 : s 14 = .int .i64 2 := (hF.out.2.2.2.1) (hw 2 (by decide))
      have e3 : s 15 = .pointer (some ⟨D, 6, none⟩) := (hF.out.2.2.2.2.1) (hw 3 (by decide))
      have e4 : s 16 = (.agg #[.int .i64 m2, .int .i64 m5, .int .i64 m8]) := (hF.out.2.2.2.2.2.1) (hw 4 (by decide))
      have e5 : s 17 = (.agg #[.int .i64 c0, .int .i64 c1, .int .i64 c2]) := (hF.out.2.2.2.2.2.2.1) (hw 5 (by decide))
      dsimp only
      go_simp
      exact hK.out (ups (ups (ups (ups (ups (ups (ups s 12 (.int .i64 2)) 13 ((.agg #[.int .i64 n0, .int .i64 n1, .int .i64 n2, .int .i64 n3, .int .i64 n4, .int .i64 n5, .int .i64 n6, .int .i64 n7, .int .i64 n8, .int .i64 ux, .int .i64 uy, .int .i64 uz]))) 14 (.int .i64 2)) 15 (.pointer (some ⟨D, 6, none⟩))) 16 ((.agg #[.int .i64 m2, .int .i64 m5, .int .i64 m8]))) 17 ((.agg #[.int .i64 c0, .int .i64 c1, .int .i64 c2]))) 18 (.pointer (some ⟨D, 6, none⟩))) b _ ⟨(fun _ => hB), (fun _ => rfl), (fun _ => rfl), (fun _ => rfl), (fun _ => rfl), (fun _ => rfl), (fun _ => rfl), (fun _ => rfl), (fun h => absurd ((hF.out.2.2.2.2.2.2.2.2.1) h 6 (by decide)) (by simp [hd])), (fun h => absurd ((hF.out.2.2.2.2.2.2.2.2.1) h 6 (by decide)) (by simp [hd]))⟩
    refine StepsF.cons (o := _) rfl (ws := [6, 5, 5, 0, 1, 2, 3, 4, 5]) (by kernel_rfl) (by decide) (fun d s b w hF hd hw K hK => ?_) ?_
    · have hB : Below V2.heap.size V2 w := (hF.out.1) hd
      have e0 : s 12 = .int .i64 2 := (hF.out.2.1) (hw 0 (by decide))
      have e1 : s 13 = (.agg #[.int .i64 n0, .int .i64 n1, .int .i64 n2, .int .i64 n3, .int .i64 n4, .int .i64 n5, .int .i64 n6, .int .i64 n7, .int .i64 n8, .int .i64 ux, .int .i64 uy, .int .i64 uz]) := (hF.out.2.2.1) (hw 1 (by decide))
      have e2 : s 14 = .int .i64 2 := (hF.out.2.2.2.1) (hw 2 (by decide))
      have e3 : s 15 = .pointer (some ⟨D, 6, none⟩) := (hF.out.2.2.2.2.1) (hw 3 (by decide))
      have e4 : s 16 = (.agg #[.int .i64 m2, .int .i64 m5, .int .i64 m8]) := (hF.out.2.2.2.2.2.1) (hw 4 (by decide))
      have e5 : s 17 = (.agg #[.int .i64 c0, .int .i64 c1, .int .i64 c2]) := (hF.out.2.2.2.2.2.2.1) (hw 5 (by decide))
      have e6 : s 18 = .pointer (some ⟨D, 6, none⟩) := (hF.out.2.2.2.2.2.2.2.1) (hw 6 (by decide))
      dsimp only
      have oX := HD.out.later hB
      have fr6 := oX.ok 6 (by simp)
      have fr7 := oX.ok 7 (by simp)
      have fr8 := oX.ok 8 (by simp)
      have ce6 := oX.at 6 _ rfl
      have ce7 := oX.at 7 _ rfl
      have ce8 := oX.at 8 _ rfl
      clear oX
      go_simp
      exact hK.out (ups (ups (ups (ups (ups (ups (ups s 12 (.int .i64 2)) 13 ((.agg #[.int .i64 n0, .int .i64 n1, .int .i64 n2, .int .i64 n3, .int .i64 n4, .int .i64 n5, .int .i64 n6, .int .i64 n7, .int .i64 n8, .int .i64 ux, .int .i64 uy, .int .i64 uz]))) 14 (.int .i64 2)) 15 (.pointer (some ⟨D, 6, none⟩))) 16 ((.agg #[.int .i64 m2, .int .i64 m5, .int .i64 m8]))) 17 ((.agg #[.int .i64 c0, .int .i64 c1, .int .i64 c2]))) 18 (.pointer (some ⟨D, 6, none⟩))) b _ ⟨(fun h => nomatch h), (fun _ => rfl), (fun _ => rfl), (fun _ => rfl), (fun _ => rfl), (fun _ => rfl), (fun _ => rfl), (fun _ => rfl), (fun _ j hj => by have hj2 := hw j (by simp; omega); simp [upd, hj2]), (fun _ => ⟨w, hB, rfl⟩)⟩
    exact StepsF.nil
  intro d s b y2 hF hall
  replace hF := Lib.hid hF
  obtain ⟨y2, hB, rfl⟩ := (hF.out.2.2.2.2.2.2.2.2.2) (hall 7 (by decide))
  try dsimp only
  have e0 : s 12 = .int .i64 2 := (hF.out.2.1) (hall 0 (by decide))
  have e1 : s 13 = (.agg #[.int .i64 n0, .int .i64 n1, .int .i64 n2, .int .i64 n3, .int .i64 n4, .int .i64 n5, .int .i64 n6, .int .i64 n7, .int .i64 n8, .int .i64 ux, .int .i64 uy, .int .i64 uz]) := (hF.out.2.2.1) (hall 1 (by decide))
  have e2 : s 14 = .int .i64 2 := (hF.out.2.2.2.1) (hall 2 (by decide))
  have e3 : s 15 = .pointer (some ⟨D, 6, none⟩) := (hF.out.2.2.2.2.1) (hall 3 (by decide))
  have e4 : s 16 = (.agg #[.int .i64 m2, .int .i64 m5, .int .i64 m8]) := (hF.out.2.2.2.2.2.1) (hall 4 (by decide))
  have e5 : s 17 = (.agg #[.int .i64 c0, .int .i64 c1, .int .i64 c2]) := (hF.out.2.2.2.2.2.2.1) (hall 5 (by decide))
  have e6 : s 18 = .pointer (some ⟨D, 6, none⟩) := (hF.out.2.2.2.2.2.2.2.1) (hall 6 (by decide))
  rw [e0, e1, e2, e3, e4, e5, e6]
  clear hall hF e0 e1 e2 e3 e4 e5 e6
  clear d s b
  have HDn : Hid (Own D [.int .i64 a0, .int .i64 a1, .int .i64 a2, .int .i64 b0, .int .i64 b1, .int .i64 b2, .int .i64 c0, .int .i64 c1, .int .i64 c2, .int .i64 tx, .int .i64 ty, .int .i64 tz] (y2.setCells D 6 [.int .i64 c0, .int .i64 c1, .int .i64 c2])) := Lib.hid (show Own D (over _ 6 [.int .i64 c0, .int .i64 c1, .int .i64 c2]) _ from Own.part (HD.out.later hB) (by simp))
  have HGn : Hid (Own G [.int .i64 n0, .int .i64 n1, .int .i64 n2, .int .i64 n3, .int .i64 n4, .int .i64 n5, .int .i64 n6, .int .i64 n7, .int .i64 n8, .int .i64 ux, .int .i64 uy, .int .i64 uz] (y2.setCells D 6 [.int .i64 c0, .int .i64 c1, .int .i64 c2])) := Lib.hid (Own.far (o := 6) (vs := [.int .i64 c0, .int .i64 c1, .int .i64 c2]) (HG.out.later hB) nGD)
  have HRn : Hid (Own R [.int .i64 0, .int .i64 0, .int .i64 0, .int .i64 0, .int .i64 0, .int .i64 0, .int .i64 0, .int .i64 0, .int .i64 0, .int .i64 0, .int .i64 0, .int .i64 0] (y2.setCells D 6 [.int .i64 c0, .int .i64 c1, .int .i64 c2])) := Lib.hid (Own.far (o := 6) (vs := [.int .i64 c0, .int .i64 c1, .int .i64 c2]) (HR.out.later hB) nRD)
  have V3b : Below w.heap.size w (y2.setCells D 6 [.int .i64 c0, .int .i64 c1, .int .i64 c2]) := Below.setCells (Below.go V2b hB) Dw [.int .i64 c0, .int .i64 c1, .int .i64 c2] 6
  generalize (y2.setCells D 6 [.int .i64 c0, .int .i64 c1, .int .i64 c2]) = V3 at *
  clear HD HG HR hB
  have HD := HDn
  clear HDn
  have HG := HGn
  clear HGn
  have HR := HRn
  clear HRn
  clear V2b
  go_wp2_with (fail)
  rw [rounds_succ]
  have oG := HG.out
  have G0 := oG.at 0 _ rfl
  have G1 := oG.at 1 _ rfl
  have G2 := oG.at 2 _ rfl
  have G3 := oG.at 3 _ rfl
  have G4 := oG.at 4 _ rfl
  have G5 := oG.at 5 _ rfl
  have G6 := oG.at 6 _ rfl
  have G7 := oG.at 7 _ rfl
  have G8 := oG.at 8 _ rfl
  have G9 := oG.at 9 _ rfl
  have G10 := oG.at 10 _ rfl
  have G11 := oG.at 11 _ rfl
  have Gl := oG.lt
  clear oG
  have oD := HD.out
  have D0 := oD.at 0 _ rfl
  have Df0 := oD.ok 0 (by simp)
  have D1 := oD.at 1 _ rfl
  have Df1 := oD.ok 1 (by simp)
  have D2 := oD.at 2 _ rfl
  have Df2 := oD.ok 2 (by simp)
  have D3 := oD.at 3 _ rfl
  have Df3 := oD.ok 3 (by simp)
  have D4 := oD.at 4 _ rfl
  have Df4 := oD.ok 4 (by simp)
  have D5 := oD.at 5 _ rfl
  have Df5 := oD.ok 5 (by simp)
  have D6 := oD.at 6 _ rfl
  have Df6 := oD.ok 6 (by simp)
  have D7 := oD.at 7 _ rfl
  have Df7 := oD.ok 7 (by simp)
  have D8 := oD.at 8 _ rfl
  have Df8 := oD.ok 8 (by simp)
  have D9 := oD.at 9 _ rfl
  have Df9 := oD.ok 9 (by simp)
  have D10 := oD.at 10 _ rfl
  have Df10 := oD.ok 10 (by simp)
  have D11 := oD.at 11 _ rfl
  have Df11 := oD.ok 11 (by simp)
  have Dl := oD.lt
  clear oD
  go_upto_region 8 with (go_at_call 97; refine (k3.out _).mono ?_; rintro e y3 ⟨rfl, hB⟩; have oD := HD.out.later hB; have Dy9 := oD.at 9 _ rfl; have Dyf9 := oD.ok 9 (by simp); have Dy10 := oD.at 10 _ rfl; have Dyf10 := oD.ok 10 (by simp); have Dy11 := oD.at 11 _ rfl; have Dyf11 := oD.ok 11 (by simp); clear oD)
  clear G0 D0 Df0 G1 D1 Df1 G2 D2 Df2 G3 D3 Df3 G4 D4 Df4 G5 D5 Df5 G6 D6 Df6 G7 D7 Df7 G8 D8 Df8 G9 D9 Df9 G10 D10 Df10 G11 D11 Df11 Dy9 Dyf9 Dy10 Dyf10 Dy11 Dyf11 Gl Dl
  rw [show (((y3.setCell ⟨D, 9, none⟩ (.int .i64 t0)).setCell ⟨D, 10, none⟩ (.int .i64 t1)).setCell ⟨D, 11, none⟩ (.int .i64 t2)) = y3.setCells D 9 [.int .i64 t0, .int .i64 t1, .int .i64 t2] from rfl]
  have HDn : Hid (Own D [.int .i64 a0, .int .i64 a1, .int .i64 a2, .int .i64 b0, .int .i64 b1, .int .i64 b2, .int .i64 c0, .int .i64 c1, .int .i64 c2, .int .i64 t0, .int .i64 t1, .int .i64 t2] (y3.setCells D 9 [.int .i64 t0, .int .i64 t1, .int .i64 t2])) := Lib.hid (show Own D (over _ 9 [.int .i64 t0, .int .i64 t1, .int .i64 t2]) _ from Own.part (HD.out.later hB) (by simp))
  have HRn : Hid (Own R [.int .i64 0, .int .i64 0, .int .i64 0, .int .i64 0, .int .i64 0, .int .i64 0, .int .i64 0, .int .i64 0, .int .i64 0, .int .i64 0, .int .i64 0, .int .i64 0] (y3.setCells D 9 [.int .i64 t0, .int .i64 t1, .int .i64 t2])) := Lib.hid (Own.far (o := 9) (vs := [.int .i64 t0, .int .i64 t1, .int .i64 t2]) (HR.out.later hB) nRD)
  have V4b : Below w.heap.size w (y3.setCells D 9 [.int .i64 t0, .int .i64 t1, .int .i64 t2]) := Below.setCells (Below.go V3b hB) Dw [.int .i64 t0, .int .i64 t1, .int .i64 t2] 9
  generalize (y3.setCells D 9 [.int .i64 t0, .int .i64 t1, .int .i64 t2]) = V4 at *
  clear HD HR hB
  have HD := HDn
  clear HDn
  have HR := HRn
  clear HRn
  clear HG V3b k0 k1 k2 k3
  have oD := HD.out
  have D0 := oD.at 0 _ rfl
  have D1 := oD.at 1 _ rfl
  have D2 := oD.at 2 _ rfl
  have D3 := oD.at 3 _ rfl
  have D4 := oD.at 4 _ rfl
  have D5 := oD.at 5 _ rfl
  have D6 := oD.at 6 _ rfl
  have D7 := oD.at 7 _ rfl
  have D8 := oD.at 8 _ rfl
  have D9 := oD.at 9 _ rfl
  have D10 := oD.at 10 _ rfl
  have D11 := oD.at 11 _ rfl
  have Dl := oD.lt
  clear oD
  go_wp2_with (fail)
  go_at_call 89
  refine (fc.out _).mono ?_
  rintro e y4 ⟨rfl, hb⟩
  have HR' := Lib.hid (HR.out.later hb)
  have hB5 : Below w.heap.size w y4 := Below.go V4b hb
  clear HR hb V4b
  have oR := HR'.out
  have R0 := oR.at 0 _ rfl
  have Rf0 := oR.ok 0 (by simp)
  have R1 := oR.at 1 _ rfl
  have Rf1 := oR.ok 1 (by simp)
  have R2 := oR.at 2 _ rfl
  have Rf2 := oR.ok 2 (by simp)
  have R3 := oR.at 3 _ rfl
  have Rf3 := oR.ok 3 (by simp)
  have R4 := oR.at 4 _ rfl
  have Rf4 := oR.ok 4 (by simp)
  have R5 := oR.at 5 _ rfl
  have Rf5 := oR.ok 5 (by simp)
  have R6 := oR.at 6 _ rfl
  have Rf6 := oR.ok 6 (by simp)
  have R7 := oR.at 7 _ rfl
  have Rf7 := oR.ok 7 (by simp)
  have R8 := oR.at 8 _ rfl
  have Rf8 := oR.ok 8 (by simp)
  have R9 := oR.at 9 _ rfl
  have Rf9 := oR.ok 9 (by simp)
  have R10 := oR.at 10 _ rfl
  have Rf10 := oR.ok 10 (by simp)
  have R11 := oR.at 11 _ rfl
  have Rf11 := oR.ok 11 (by simp)
  have Rl := oR.lt
  clear oR
  go_wp2_with (fail)
  exact bodyPost_ret (v := (.agg #[.int .i64 a0, .int .i64 b0, .int .i64 c0, .int .i64 a1, .int .i64 b1, .int .i64 c1, .int .i64 a2, .int .i64 b2, .int .i64 c2, .int .i64 t0, .int .i64 t1, .int .i64 t2])) (by simp [results, Try.results90, go_sem, R0, R1, R2, R3, R4, R5, R6, R7, R8, R9, R10, R11]) rfl ⟨rfl, by repeat (first | (with_reducible assumption) | (with_reducible refine Below.al ?_) | (with_reducible refine Below.setCell ?_ (by first | assumption | (simp; omega) | omega) _))⟩
end Go.Proofs.Ytgggngcgcpmkbaa
