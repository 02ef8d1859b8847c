/- umbralaw05.OctaQuants: the walk. -/
import Derived.Test.YtgggngcgcpmkbaaOI
import Derived.Test.YtgggngcgcpmkbaaOG
import Derived.Deep.DeepCutAuto
import Derived.Deep.RegionHeld3
namespace Go.Proofs.Ytgggngcgcpmkbaa
set_option linter.unusedVariables false
set_option maxRecDepth 2000
set_option linter.unusedSimpArgs false
open Go.RowKit
attribute [local go_sem] setCell_twice setCell_pair
attribute [local go_sem ↓] eqPt neqPt

set_option maxHeartbeats 8000000 in
theorem Quants_core (x y z a0 a1 a2 b0 b1 b2 X Y Z er k U V_ T : Int) (he : wrap64 er = er) (he2 : IntKind.i64.wrap er = er) (w : World)
    (oq : Hid (∀ w, Calls Try.prog 24 #[(.agg #[.int .i64 x, .int .i64 y, .int .i64 z])] w fun e w' => e = .returned (.tuple #[(.agg #[.int .i64 X, .int .i64 Y, .int .i64 Z]), .int .i64 er]) ∧ Below w.heap.size w w')) (rq : Hid (∀ w, Calls Try.prog 25 #[(.agg #[.int .i64 x, .int .i64 y, .int .i64 z])] w fun e w' => e = .returned (.tuple #[(.agg #[.int .i64 X, .int .i64 Y, .int .i64 Z]), .int .i64 er]) ∧ Below w.heap.size w w'))
    (od : Hid (∀ w, Calls Try.prog 26 #[(.agg #[.int .i64 a0, .int .i64 a1, .int .i64 a2]), (.agg #[.int .i64 b0, .int .i64 b1, .int .i64 b2])] w fun e w' => e = .returned (.int .i64 k) ∧ Below w.heap.size w w')) (rd : Hid (∀ w, Calls Try.prog 27 #[(.agg #[.int .i64 a0, .int .i64 a1, .int .i64 a2]), (.agg #[.int .i64 b0, .int .i64 b1, .int .i64 b2])] w fun e w' => e = .returned (.int .i64 k) ∧ Below w.heap.size w w'))
    (of : Hid (∀ w, Calls Try.prog 28 #[(.agg #[.int .i64 a0, .int .i64 a1, .int .i64 a2]), (.agg #[.int .i64 b0, .int .i64 b1, .int .i64 b2])] w fun e w' => e = .returned (.agg #[.int .i64 U, .int .i64 V_, .int .i64 T]) ∧ Below w.heap.size w w')) (rf : Hid (∀ w, Calls Try.prog 29 #[(.agg #[.int .i64 a0, .int .i64 a1, .int .i64 a2]), (.agg #[.int .i64 b0, .int .i64 b1, .int .i64 b2])] w fun e w' => e = .returned (.agg #[.int .i64 U, .int .i64 V_, .int .i64 T]) ∧ Below w.heap.size w w'))
    (wk : Hid (∀ w, Calls Try.prog 19 #[] w fun e w' => e = .returned (.bool true) ∧ Below w.heap.size w w')) :
    Calls Try.prog 5 #[(.agg #[.int .i64 x, .int .i64 y, .int .i64 z]), (.agg #[.int .i64 a0, .int .i64 a1, .int .i64 a2]), (.agg #[.int .i64 b0, .int .i64 b1, .int .i64 b2])] w fun e w' => e = .returned (.bool true) ∧ Below w.heap.size w w' := by
  have e1 := eqT_self X Y Z
  have e2 := eqT_self U V_ T
  go_enter Try.func5, Try.ntmps5
  go_wp2_with (fail)
  obtain ⟨W0, hW⟩ : ∃ W0, W0 = (((w.alloc (.cells #[.int .i64 x, .int .i64 y, .int .i64 z] 36)).alloc (.cells #[.int .i64 a0, .int .i64 a1, .int .i64 a2] 24)).alloc (.cells #[.int .i64 b0, .int .i64 b1, .int .i64 b2] 24)) := ⟨_, rfl⟩
  have hB0 : Below w.heap.size w W0 := hW ▸ (Below.al (Below.al (Below.al (Below.refl _ _))))
  have HV : Hid (Own w.heap.size [.int .i64 x, .int .i64 y, .int .i64 z] W0) := Lib.hid (hW ▸ (Own.newAt (by simp)).alloc.alloc)
  have HA : Hid (Own (w.heap.size + 1) [.int .i64 a0, .int .i64 a1, .int .i64 a2] W0) := Lib.hid (hW ▸ (Own.newAt (by simp)).alloc)
  have HB : Hid (Own ((w.heap.size + 1) + 1) [.int .i64 b0, .int .i64 b1, .int .i64 b2] W0) := Lib.hid (hW ▸ (Own.newAt (by simp)))
  rw [← hW]
  clear hW
  obtain ⟨B, eB⟩ : ∃ X, X = ((w.heap.size + 1) + 1) := ⟨_, rfl⟩
  rw [← eB] at HB ⊢
  have Bw : w.heap.size ≤ B := by omega
  obtain ⟨A, eA⟩ : ∃ X, X = (w.heap.size + 1) := ⟨_, rfl⟩
  rw [← eA] at HA ⊢
  have Aw : w.heap.size ≤ A := by omega
  obtain ⟨V, eV⟩ : ∃ X, X = w.heap.size := ⟨_, rfl⟩
  rw [← eV] at HV ⊢
  have Vw : w.heap.size ≤ V := by omega
  have nVA : V ≠ A := by omega
  have nAV : A ≠ V := by omega
  have nVB : V ≠ B := by omega
  have nBV : B ≠ V := by omega
  have nAB : A ≠ B := by omega
  have nBA : B ≠ A := by omega
  clear eV eA eB
  have oV := HV.out
  have V0 := oV.at 0 _ rfl
  have V1 := oV.at 1 _ rfl
  have V2 := oV.at 2 _ rfl
  have Vl := oV.lt
  clear oV
  clear V0 V1 V2 Vl
  go_at_call 24; refine (oq.out _).mono ?_; rintro e w1 ⟨rfl, hb⟩
  replace HV := Lib.hid (HV.out.later hb)
  replace HA := Lib.hid (HA.out.later hb)
  replace HB := Lib.hid (HB.out.later hb)
  have hB1 := Below.go hB0 hb
  clear hb hB0
  go_upto_region 2 with fail
  obtain ⟨W2, hW⟩ : ∃ W2, W2 = (w1.alloc (.cells #[.int .i64 X, .int .i64 Y, .int .i64 Z] 24)) := ⟨_, rfl⟩
  have hq : Below w1.heap.size w1 W2 := hW ▸ (Below.al (Below.refl _ _))
  have HD : Hid (Own w1.heap.size [.int .i64 X, .int .i64 Y, .int .i64 Z] W2) := Lib.hid (hW ▸ (Own.newAt (by simp)))
  rw [← hW]
  clear hW
  obtain ⟨D, eD⟩ : ∃ X, X = w1.heap.size := ⟨_, rfl⟩
  rw [← eD] at HD ⊢
  have Dw : w1.heap.size ≤ D := by omega
  clear eD
  replace HV := Lib.hid (HV.out.later hq); replace HA := Lib.hid (HA.out.later hq); replace HB := Lib.hid (HB.out.later hq)
  have hB2 : Below w.heap.size w W2 := Below.go hB1 hq
  clear hq hB1 Dw
  have oV := HV.out
  have V0 := oV.at 0 _ rfl
  have V1 := oV.at 1 _ rfl
  have V2 := oV.at 2 _ rfl
  have Vl := oV.lt
  clear oV
  go_wp2_with (fail)
  go_at_call 25; refine (rq.out _).mono ?_; rintro e w3 ⟨rfl, hb⟩
  replace HV := Lib.hid (HV.out.later hb)
  replace HA := Lib.hid (HA.out.later hb)
  replace HB := Lib.hid (HB.out.later hb)
  replace HD := Lib.hid (HD.out.later hb)
  have hB3 := Below.go hB2 hb
  clear hb hB2
  go_upto_region 3 with fail
  obtain ⟨W4, hW⟩ : ∃ W4, W4 = (w3.alloc (.cells #[.int .i64 X, .int .i64 Y, .int .i64 Z] 24)) := ⟨_, rfl⟩
  have hq : Below w3.heap.size w3 W4 := hW ▸ (Below.al (Below.refl _ _))
  have HQ : Hid (Own w3.heap.size [.int .i64 X, .int .i64 Y, .int .i64 Z] W4) := Lib.hid (hW ▸ (Own.newAt (by simp)))
  rw [← hW]
  clear hW
  obtain ⟨Q, eQ⟩ : ∃ X, X = w3.heap.size := ⟨_, rfl⟩
  rw [← eQ] at HQ ⊢
  have Qw : w3.heap.size ≤ Q := by omega
  clear eQ
  replace HD := Lib.hid (HD.out.later hq); replace HA := Lib.hid (HA.out.later hq); replace HB := Lib.hid (HB.out.later hq)
  have hB4 : Below w.heap.size w W4 := Below.go hB3 hq
  clear hq hB3 Qw HV
  have hBd : Below W4.heap.size W4 W4.drew := (Below.refl _ _).drew
  have SH : Hid (∀ w', Below W4.heap.size W4 w' → w'.cell? ⟨D, 0, none⟩ = some (.int .i64 X) ∧ w'.cell? ⟨D, 1, none⟩ = some (.int .i64 Y) ∧ w'.cell? ⟨D, 2, none⟩ = some (.int .i64 Z) ∧ w'.cell? ⟨Q, 0, none⟩ = some (.int .i64 X) ∧ w'.cell? ⟨Q, 1, none⟩ = some (.int .i64 Y) ∧ w'.cell? ⟨Q, 2, none⟩ = some (.int .i64 Z) ∧ w'.cell? ⟨A, 0, none⟩ = some (.int .i64 a0) ∧ w'.cell? ⟨A, 1, none⟩ = some (.int .i64 a1) ∧ w'.cell? ⟨A, 2, none⟩ = some (.int .i64 a2) ∧ w'.cell? ⟨B, 0, none⟩ = some (.int .i64 b0) ∧ w'.cell? ⟨B, 1, none⟩ = some (.int .i64 b1) ∧ w'.cell? ⟨B, 2, none⟩ = some (.int .i64 b2)) := Lib.hid fun w' hb => ⟨(HD.out.later hb).at 0 _ rfl, (HD.out.later hb).at 1 _ rfl, (HD.out.later hb).at 2 _ rfl, (HQ.out.later hb).at 0 _ rfl, (HQ.out.later hb).at 1 _ rfl, (HQ.out.later hb).at 2 _ rfl, (HA.out.later hb).at 0 _ rfl, (HA.out.later hb).at 1 _ rfl, (HA.out.later hb).at 2 _ rfl, (HB.out.later hb).at 0 _ rfl, (HB.out.later hb).at 1 _ rfl, (HB.out.later hb).at 2 _ rfl⟩
  go_region_held3 (fun w' => w'.cell? ⟨D, 0, none⟩ = some (.int .i64 X) ∧ w'.cell? ⟨D, 1, none⟩ = some (.int .i64 Y) ∧ w'.cell? ⟨D, 2, none⟩ = some (.int .i64 Z) ∧ w'.cell? ⟨Q, 0, none⟩ = some (.int .i64 X) ∧ w'.cell? ⟨Q, 1, none⟩ = some (.int .i64 Y) ∧ w'.cell? ⟨Q, 2, none⟩ = some (.int .i64 Z) ∧ w'.cell? ⟨A, 0, none⟩ = some (.int .i64 a0) ∧ w'.cell? ⟨A, 1, none⟩ = some (.int .i64 a1) ∧ w'.cell? ⟨A, 2, none⟩ = some (.int .i64 a2) ∧ w'.cell? ⟨B, 0, none⟩ = some (.int .i64 b0) ∧ w'.cell? ⟨B, 1, none⟩ = some (.int .i64 b1) ∧ w'.cell? ⟨B, 2, none⟩ = some (.int .i64 b2)) (first | exact SH.out _ (by assumption) | exact SH.out _ (Below.al (by assumption))) (first | (go_at_call 26; (with_reducible refine (od.out _).mono ?_); rintro e w5 ⟨rfl, h1⟩; have bw5 : Below W4.heap.size W4 w5 := Below.go hBd h1; clear h1) | (go_at_call 27; (with_reducible refine (rd.out _).mono ?_); rintro e w6 ⟨rfl, h1⟩; have bw6 : Below W4.heap.size W4 w6 := Below.go bw5 h1; clear h1) | (go_at_call 28; (with_reducible refine (of.out _).mono ?_); rintro e w7 ⟨rfl, h1⟩; have bw7 : Below W4.heap.size W4 w7 := Below.go bw6 h1; clear h1) | (go_at_call 29; (with_reducible refine (rf.out _).mono ?_); rintro e w8 ⟨rfl, h1⟩; have bw8 : Below W4.heap.size W4 w8 := Below.go bw7 h1; clear h1) | (go_at_call 19; (with_reducible refine (wk.out _).mono ?_); rintro e w9 ⟨rfl, h1⟩; have bw9 : Below W4.heap.size W4 w9 := Below.go bw8 h1; clear h1))
  have hB9 := Below.go hB4 bw9
  clear hB4 hBd bw5 bw6 bw7 bw8 bw9 SH HD HQ HA HB od rd of rf wk oq rq
  go_wp2
  go_ret
  exact ⟨rfl, hB9⟩
theorem Quants_walk (x y z a0 a1 a2 b0 b1 b2 : Int) (hx : in64 x) (hy : in64 y) (hz : in64 z) (w : World) : Calls Try.prog 5 #[(.agg #[.int .i64 x, .int .i64 y, .int .i64 z]), (.agg #[.int .i64 a0, .int .i64 a1, .int .i64 a2]), (.agg #[.int .i64 b0, .int .i64 b1, .int .i64 b2])] w fun e w' => e = .returned (.bool true) ∧ Below w.heap.size w w' := by
  by_cases h : mostF x y z = 0
  · exact Quants_core x y z a0 a1 a2 b0 b1 b2 _ _ _ 2 _ _ _ _ (IntWalk.wrap64_in _ (by omega)) (by decide) w (Lib.hid fun w => OQuant_none x y z hx hy hz h w) (Lib.hid fun w => RQuant_none x y z hx hy hz h w) (Lib.hid (ODot_any a0 a1 a2 b0 b1 b2)) (Lib.hid (RDot_any a0 a1 a2 b0 b1 b2)) (Lib.hid (OFacing_any a0 a1 a2 b0 b1 b2)) (Lib.hid (RFacing_any a0 a1 a2 b0 b1 b2)) (Lib.hid works_any5)
  · exact Quants_core x y z a0 a1 a2 b0 b1 b2 _ _ _ 0 _ _ _ _ (IntWalk.wrap64_in _ (by omega)) (by decide) w (Lib.hid fun w => OQuant_any x y z hx hy hz h w) (Lib.hid fun w => RQuant_any x y z hx hy hz h w) (Lib.hid (ODot_any a0 a1 a2 b0 b1 b2)) (Lib.hid (RDot_any a0 a1 a2 b0 b1 b2)) (Lib.hid (OFacing_any a0 a1 a2 b0 b1 b2)) (Lib.hid (RFacing_any a0 a1 a2 b0 b1 b2)) (Lib.hid works_any5)
end Go.Proofs.Ytgggngcgcpmkbaa
