/- umbralaw04.AffinePlaces: the walk. -/
import Derived.Test.YtalanlekdgobmaaAM
import Derived.Deep.DeepCutAuto
namespace Go.Proofs.Ytalanlekdgobmaa
set_option linter.unusedVariables false
set_option maxRecDepth 2000
set_option linter.unusedSimpArgs false
open Go.RowKit
attribute [local go_sem] setCell_twice setCell_pair

set_option maxHeartbeats 8000000 in
theorem Places_core (a : Aff) (px py pz x y z X Y Z c X2 Y2 Z2 c2 : Int) (w : World)
    (k0 : Hid (∀ w, Calls Try.prog 32 #[(.agg #[.int .i64 a.m0, .int .i64 a.m1, .int .i64 a.m2, .int .i64 a.m3, .int .i64 a.m4, .int .i64 a.m5, .int .i64 a.m6, .int .i64 a.m7, .int .i64 a.m8, .int .i64 a.tx, .int .i64 a.ty, .int .i64 a.tz]), (.agg #[.int .i64 px, .int .i64 py, .int .i64 pz])] w fun e w' => e = .returned (.tuple #[(.agg #[.int .i64 X, .int .i64 Y, .int .i64 Z]), .int .i64 c]) ∧ Below w.heap.size w w'))
    (k1 : Hid (∀ w, Calls Try.prog 33 #[(.agg #[.int .i64 a.m0, .int .i64 a.m1, .int .i64 a.m2, .int .i64 a.m3, .int .i64 a.m4, .int .i64 a.m5, .int .i64 a.m6, .int .i64 a.m7, .int .i64 a.m8, .int .i64 a.tx, .int .i64 a.ty, .int .i64 a.tz]), (.agg #[.int .i64 px, .int .i64 py, .int .i64 pz])] w fun e w' => e = .returned (.tuple #[(.agg #[.int .i64 X, .int .i64 Y, .int .i64 Z]), .int .i64 c]) ∧ Below w.heap.size w w'))
    (k2 : Hid (∀ w, Calls Try.prog 34 #[(.agg #[.int .i64 x, .int .i64 y, .int .i64 z])] w fun e w' => e = .returned (.tuple #[(.agg #[.int .i64 X2, .int .i64 Y2, .int .i64 Z2]), .int .i64 c2]) ∧ Below w.heap.size w w'))
    (k3 : Hid (∀ w, Calls Try.prog 35 #[(.agg #[.int .i64 x, .int .i64 y, .int .i64 z])] w fun e w' => e = .returned (.tuple #[(.agg #[.int .i64 X2, .int .i64 Y2, .int .i64 Z2]), .int .i64 c2]) ∧ Below w.heap.size w w'))
    (k6 : Hid (∀ w, Calls Try.prog 23 #[] w fun e w' => e = .returned (.bool true) ∧ Below w.heap.size w w')) :
    Calls Try.prog 6 #[(.agg #[.int .i64 a.m0, .int .i64 a.m1, .int .i64 a.m2, .int .i64 a.m3, .int .i64 a.m4, .int .i64 a.m5, .int .i64 a.m6, .int .i64 a.m7, .int .i64 a.m8, .int .i64 a.tx, .int .i64 a.ty, .int .i64 a.tz]), (.agg #[.int .i64 px, .int .i64 py, .int .i64 pz]), (.agg #[.int .i64 x, .int .i64 y, .int .i64 z])] w fun e w' => e = .returned (.bool true) ∧ Below w.heap.size w w' := by
  go_enter Try.func6, Try.ntmps6
  go_upto_region 1 with fail
  obtain ⟨W0, hW⟩ : ∃ W0, W0 = (((w.alloc (.cells #[.int .i64 a.m0, .int .i64 a.m1, .int .i64 a.m2, .int .i64 a.m3, .int .i64 a.m4, .int .i64 a.m5, .int .i64 a.m6, .int .i64 a.m7, .int .i64 a.m8, .int .i64 a.tx, .int .i64 a.ty, .int .i64 a.tz] 29)).alloc (.cells #[.int .i64 px, .int .i64 py, .int .i64 pz] 48)).alloc (.cells #[.int .i64 x, .int .i64 y, .int .i64 z] 26)) := ⟨_, rfl⟩
  have hB0 : Below w.heap.size w W0 := hW ▸ (Below.al (Below.al (Below.al (Below.refl _ _))))
  have HA : Hid (Own w.heap.size [.int .i64 a.m0, .int .i64 a.m1, .int .i64 a.m2, .int .i64 a.m3, .int .i64 a.m4, .int .i64 a.m5, .int .i64 a.m6, .int .i64 a.m7, .int .i64 a.m8, .int .i64 a.tx, .int .i64 a.ty, .int .i64 a.tz] W0) := Lib.hid (hW ▸ (Own.newAt (by simp)).alloc.alloc)
  have HP : Hid (Own (w.heap.size + 1) [.int .i64 px, .int .i64 py, .int .i64 pz] W0) := Lib.hid (hW ▸ (Own.newAt (by simp)).alloc)
  have HV : Hid (Own ((w.heap.size + 1) + 1) [.int .i64 x, .int .i64 y, .int .i64 z] W0) := Lib.hid (hW ▸ (Own.newAt (by simp)))
  rw [← hW]
  clear hW
  obtain ⟨V, eV⟩ : ∃ X, X = ((w.heap.size + 1) + 1) := ⟨_, rfl⟩
  rw [← eV] at HV ⊢
  have Vw : w.heap.size ≤ V := by omega
  obtain ⟨P, eP⟩ : ∃ X, X = (w.heap.size + 1) := ⟨_, rfl⟩
  rw [← eP] at HP ⊢
  have Pw : w.heap.size ≤ P := by omega
  obtain ⟨A, eA⟩ : ∃ X, X = w.heap.size := ⟨_, rfl⟩
  rw [← eA] at HA ⊢
  have Aw : w.heap.size ≤ A := by omega
  have nAP : A ≠ P := by omega
  have nPA : P ≠ A := by omega
  have nAV : A ≠ V := by omega
  have nVA : V ≠ A := by omega
  have nPV : P ≠ V := by omega
  have nVP : V ≠ P := by omega
  clear eA eP eV
  have oA := HA.out
  have A0 := oA.at 0 _ rfl
  have A1 := oA.at 1 _ rfl
  have A2 := oA.at 2 _ rfl
  have A3 := oA.at 3 _ rfl
  have A4 := oA.at 4 _ rfl
  have A5 := oA.at 5 _ rfl
  have A6 := oA.at 6 _ rfl
  have A7 := oA.at 7 _ rfl
  have A8 := oA.at 8 _ rfl
  have A9 := oA.at 9 _ rfl
  have A10 := oA.at 10 _ rfl
  have A11 := oA.at 11 _ rfl
  have Al := oA.lt
  clear oA
  have oP := HP.out
  have P0 := oP.at 0 _ rfl
  have P1 := oP.at 1 _ rfl
  have P2 := oP.at 2 _ rfl
  have Pl := oP.lt
  clear oP
  go_upto_region 2 with (go_at_call 32; refine (k0.out _).mono ?_; rintro e y0 ⟨rfl, hb⟩)
  clear A0 A1 A2 A3 A4 A5 A6 A7 A8 A9 A10 A11 Al
  clear P0 P1 P2 Pl
  replace HA := Lib.hid (HA.out.later hb)
  replace HP := Lib.hid (HP.out.later hb)
  replace HV := Lib.hid (HV.out.later hb)
  have gB0 : Below w.heap.size w y0 := Below.go hB0 hb
  clear hb hB0
  obtain ⟨U0, hW⟩ : ∃ U0, U0 = (y0.alloc (.cells #[.int .i64 X, .int .i64 Y, .int .i64 Z] 48)) := ⟨_, rfl⟩
  have hq : Below y0.heap.size y0 U0 := hW ▸ (Below.al (Below.refl _ _))
  have HN0 : Hid (Own y0.heap.size [.int .i64 X, .int .i64 Y, .int .i64 Z] U0) := Lib.hid (hW ▸ (Own.newAt (by simp)))
  rw [← hW]
  clear hW
  obtain ⟨N0, eN0⟩ : ∃ X, X = y0.heap.size := ⟨_, rfl⟩
  rw [← eN0] at HN0 ⊢
  have N0w : y0.heap.size ≤ N0 := by omega
  clear eN0
  replace HA := Lib.hid (HA.out.later hq)
  replace HP := Lib.hid (HP.out.later hq)
  replace HV := Lib.hid (HV.out.later hq)
  have hB1 : Below w.heap.size w U0 := Below.go gB0 hq
  clear hq gB0 N0w
  have oA := HA.out
  have A0 := oA.at 0 _ rfl
  have A1 := oA.at 1 _ rfl
  have A2 := oA.at 2 _ rfl
  have A3 := oA.at 3 _ rfl
  have A4 := oA.at 4 _ rfl
  have A5 := oA.at 5 _ rfl
  have A6 := oA.at 6 _ rfl
  have A7 := oA.at 7 _ rfl
  have A8 := oA.at 8 _ rfl
  have A9 := oA.at 9 _ rfl
  have A10 := oA.at 10 _ rfl
  have A11 := oA.at 11 _ rfl
  have Al := oA.lt
  clear oA
  have oP := HP.out
  have P0 := oP.at 0 _ rfl
  have P1 := oP.at 1 _ rfl
  have P2 := oP.at 2 _ rfl
  have Pl := oP.lt
  clear oP
  go_upto_region 3 with (go_at_call 33; refine (k1.out _).mono ?_; rintro e y1 ⟨rfl, hb⟩)
  clear A0 A1 A2 A3 A4 A5 A6 A7 A8 A9 A10 A11 Al
  clear P0 P1 P2 Pl
  replace HA := Lib.hid (HA.out.later hb)
  replace HP := Lib.hid (HP.out.later hb)
  replace HV := Lib.hid (HV.out.later hb)
  replace HN0 := Lib.hid (HN0.out.later hb)
  have gB1 : Below w.heap.size w y1 := Below.go hB1 hb
  clear hb hB1
  obtain ⟨U1, hW⟩ : ∃ U1, U1 = (y1.alloc (.cells #[.int .i64 X, .int .i64 Y, .int .i64 Z] 48)) := ⟨_, rfl⟩
  have hq : Below y1.heap.size y1 U1 := hW ▸ (Below.al (Below.refl _ _))
  have HN1 : Hid (Own y1.heap.size [.int .i64 X, .int .i64 Y, .int .i64 Z] U1) := Lib.hid (hW ▸ (Own.newAt (by simp)))
  rw [← hW]
  clear hW
  obtain ⟨N1, eN1⟩ : ∃ X, X = y1.heap.size := ⟨_, rfl⟩
  rw [← eN1] at HN1 ⊢
  have N1w : y1.heap.size ≤ N1 := by omega
  clear eN1
  replace HA := Lib.hid (HA.out.later hq)
  replace HP := Lib.hid (HP.out.later hq)
  replace HV := Lib.hid (HV.out.later hq)
  replace HN0 := Lib.hid (HN0.out.later hq)
  have hB2 : Below w.heap.size w U1 := Below.go gB1 hq
  clear hq gB1 N1w
  have oV := HV.out
  have V0 := oV.at 0 _ rfl
  have V1 := oV.at 1 _ rfl
  have V2 := oV.at 2 _ rfl
  have Vl := oV.lt
  clear oV
  go_upto_region 4 with (go_at_call 34; refine (k2.out _).mono ?_; rintro e y2 ⟨rfl, hb⟩)
  clear V0 V1 V2 Vl
  replace HA := Lib.hid (HA.out.later hb)
  replace HP := Lib.hid (HP.out.later hb)
  replace HV := Lib.hid (HV.out.later hb)
  replace HN0 := Lib.hid (HN0.out.later hb)
  replace HN1 := Lib.hid (HN1.out.later hb)
  have gB2 : Below w.heap.size w y2 := Below.go hB2 hb
  clear hb hB2
  obtain ⟨U2, hW⟩ : ∃ U2, U2 = (y2.alloc (.cells #[.int .i64 X2, .int .i64 Y2, .int .i64 Z2] 48)) := ⟨_, rfl⟩
  have hq : Below y2.heap.size y2 U2 := hW ▸ (Below.al (Below.refl _ _))
  have HN2 : Hid (Own y2.heap.size [.int .i64 X2, .int .i64 Y2, .int .i64 Z2] U2) := Lib.hid (hW ▸ (Own.newAt (by simp)))
  rw [← hW]
  clear hW
  obtain ⟨N2, eN2⟩ : ∃ X, X = y2.heap.size := ⟨_, rfl⟩
  rw [← eN2] at HN2 ⊢
  have N2w : y2.heap.size ≤ N2 := by omega
  clear eN2
  replace HA := Lib.hid (HA.out.later hq)
  replace HP := Lib.hid (HP.out.later hq)
  replace HV := Lib.hid (HV.out.later hq)
  replace HN0 := Lib.hid (HN0.out.later hq)
  replace HN1 := Lib.hid (HN1.out.later hq)
  have hB3 : Below w.heap.size w U2 := Below.go gB2 hq
  clear hq gB2 N2w
  have oV := HV.out
  have V0 := oV.at 0 _ rfl
  have V1 := oV.at 1 _ rfl
  have V2 := oV.at 2 _ rfl
  have Vl := oV.lt
  clear oV
  go_upto_region 5 with (go_at_call 35; refine (k3.out _).mono ?_; rintro e y3 ⟨rfl, hb⟩)
  clear V0 V1 V2 Vl
  replace HA := Lib.hid (HA.out.later hb)
  replace HP := Lib.hid (HP.out.later hb)
  replace HV := Lib.hid (HV.out.later hb)
  replace HN0 := Lib.hid (HN0.out.later hb)
  replace HN1 := Lib.hid (HN1.out.later hb)
  replace HN2 := Lib.hid (HN2.out.later hb)
  have gB3 : Below w.heap.size w y3 := Below.go hB3 hb
  clear hb hB3
  obtain ⟨U3, hW⟩ : ∃ U3, U3 = (y3.alloc (.cells #[.int .i64 X2, .int .i64 Y2, .int .i64 Z2] 48)) := ⟨_, rfl⟩
  have hq : Below y3.heap.size y3 U3 := hW ▸ (Below.al (Below.refl _ _))
  have HN3 : Hid (Own y3.heap.size [.int .i64 X2, .int .i64 Y2, .int .i64 Z2] U3) := Lib.hid (hW ▸ (Own.newAt (by simp)))
  rw [← hW]
  clear hW
  obtain ⟨N3, eN3⟩ : ∃ X, X = y3.heap.size := ⟨_, rfl⟩
  rw [← eN3] at HN3 ⊢
  have N3w : y3.heap.size ≤ N3 := by omega
  clear eN3
  replace HA := Lib.hid (HA.out.later hq)
  replace HP := Lib.hid (HP.out.later hq)
  replace HV := Lib.hid (HV.out.later hq)
  replace HN0 := Lib.hid (HN0.out.later hq)
  replace HN1 := Lib.hid (HN1.out.later hq)
  replace HN2 := Lib.hid (HN2.out.later hq)
  have hB4 : Below w.heap.size w U3 := Below.go gB3 hq
  clear hq gB3 N3w
  have oN0 := HN0.out
  have N00 := oN0.at 0 _ rfl
  have N01 := oN0.at 1 _ rfl
  have N02 := oN0.at 2 _ rfl
  have N0l := oN0.lt
  clear oN0
  have oN1 := HN1.out
  have N10 := oN1.at 0 _ rfl
  have N11 := oN1.at 1 _ rfl
  have N12 := oN1.at 2 _ rfl
  have N1l := oN1.lt
  clear oN1
  have oN2 := HN2.out
  have N20 := oN2.at 0 _ rfl
  have N21 := oN2.at 1 _ rfl
  have N22 := oN2.at 2 _ rfl
  have N2l := oN2.lt
  clear oN2
  have oN3 := HN3.out
  have N30 := oN3.at 0 _ rfl
  have N31 := oN3.at 1 _ rfl
  have N32 := oN3.at 2 _ rfl
  have N3l := oN3.lt
  clear oN3
  clear HA HP HV HN0 HN1 HN2 HN3 k0 k1 k2 k3
  go_wp2_with (go_at_call 23; refine (k6.out _).mono ?_; rintro e w7 ⟨rfl, hb⟩)
  go_ret
  exact ⟨rfl, Below.go hB4 hb⟩
theorem placeV_form (a : Aff) (px py pz : Int) : ∃ X Y Z c, placeV a px py pz = .tuple #[(.agg #[.int .i64 X, .int .i64 Y, .int .i64 Z]), .int .i64 c] := by
  unfold placeV
  split
  · exact snapV_form _ _ _
  · exact ⟨_, _, _, _, rfl⟩
theorem Places_walk (a : Aff) (px py pz x y z : Int) (ha : inA a) (hp : in64 px) (hq : in64 py) (hr : in64 pz) (hx : in64 x) (hy : in64 y) (hz : in64 z) (w : World) :
    Calls Try.prog 6 #[(.agg #[.int .i64 a.m0, .int .i64 a.m1, .int .i64 a.m2, .int .i64 a.m3, .int .i64 a.m4, .int .i64 a.m5, .int .i64 a.m6, .int .i64 a.m7, .int .i64 a.m8, .int .i64 a.tx, .int .i64 a.ty, .int .i64 a.tz]), (.agg #[.int .i64 px, .int .i64 py, .int .i64 pz]), (.agg #[.int .i64 x, .int .i64 y, .int .i64 z])] w fun e w' => e = .returned (.bool true) ∧ Below w.heap.size w w' := by
  obtain ⟨X, Y, Z, c, e⟩ := placeV_form a px py pz
  obtain ⟨X2, Y2, Z2, c2, e2⟩ := snapV_form (rnd x) (rnd y) (rnd z)
  exact Places_core a px py pz x y z X Y Z c X2 Y2 Z2 c2 w (fun w => e ▸ Place_any a px py pz ha hp hq hr w) (fun w => e ▸ RPlace_any a px py pz ha hp hq hr w) (fun w => e2 ▸ Snap_any x y z hx hy hz w) (fun w => e2 ▸ RSnap_any x y z hx hy hz w) (fun w => works_any w)
end Go.Proofs.Ytalanlekdgobmaa
