/- A quarter of a round, and the document's. -/
import Derived.Test.YtbepgbpmgiihbaaDoorCB
namespace Go.Proofs.YtbepgbpmgiihbaaDoor
set_option linter.unusedVariables false
set_option maxRecDepth 2000
set_option linter.unusedSimpArgs false
open Go.RowKit

theorem Quarter_any (a b c d : Int) (ha : in32 a) (hb : in32 b) (hc : in32 c) (hd : in32 d) (w : World) : Calls Tryd.prog 26 #[(.agg #[.int .u32 a, .int .u32 b, .int .u32 c, .int .u32 d])] w fun e w' => e = .returned (.agg #[.int .u32 (quarterF ⟨a, b, c, d⟩).a, .int .u32 (quarterF ⟨a, b, c, d⟩).b, .int .u32 (quarterF ⟨a, b, c, d⟩).c, .int .u32 (quarterF ⟨a, b, c, d⟩).d]) ∧ Below w.heap.size w w' := by
  have Ia := Lib.hid ha; have Ib := Lib.hid hb; have Ic := Lib.hid hc; have Id := Lib.hid hd
  clear ha hb hc hd
  have Ia1 : Hid (in32 (add32 a b)) := Lib.hid (in_add32 _ _)
  obtain ⟨a1, ea1⟩ : ∃ z, add32 a b = z := ⟨_, rfl⟩
  rw [ea1] at Ia1
  have fa1 : (a + b) % 4294967296 = a1 := ea1
  have ga1 : IntKind.u32.wrap (a + b) = a1 := (IntKind.wrap_u32' _).trans ea1
  have Ix1 : Hid (in32 (xor32 d a1)) := Lib.hid (in_xor32 Id.out Ia1.out)
  obtain ⟨x1, ex1⟩ : ∃ z, xor32 d a1 = z := ⟨_, rfl⟩
  rw [ex1] at Ix1
  have fx1 : bits .xor .u32 d a1 = x1 := (u32_xor _ _ Id.out.1 Id.out.2 Ia1.out.1 Ia1.out.2).trans ex1
  have Id1 : Hid (in32 (rot32 16 x1)) := Lib.hid (in_rot32 _ Ix1.out)
  obtain ⟨d1, ed1⟩ : ∃ z, rot32 16 x1 = z := ⟨_, rfl⟩
  rw [ed1] at Id1
  have Ic1 : Hid (in32 (add32 c d1)) := Lib.hid (in_add32 _ _)
  obtain ⟨c1, ec1⟩ : ∃ z, add32 c d1 = z := ⟨_, rfl⟩
  rw [ec1] at Ic1
  have fc1 : (c + d1) % 4294967296 = c1 := ec1
  have gc1 : IntKind.u32.wrap (c + d1) = c1 := (IntKind.wrap_u32' _).trans ec1
  have Iy1 : Hid (in32 (xor32 b c1)) := Lib.hid (in_xor32 Ib.out Ic1.out)
  obtain ⟨y1, ey1⟩ : ∃ z, xor32 b c1 = z := ⟨_, rfl⟩
  rw [ey1] at Iy1
  have fy1 : bits .xor .u32 b c1 = y1 := (u32_xor _ _ Ib.out.1 Ib.out.2 Ic1.out.1 Ic1.out.2).trans ey1
  have Ib1 : Hid (in32 (rot32 12 y1)) := Lib.hid (in_rot32 _ Iy1.out)
  obtain ⟨b1, eb1⟩ : ∃ z, rot32 12 y1 = z := ⟨_, rfl⟩
  rw [eb1] at Ib1
  have Ia2 : Hid (in32 (add32 a1 b1)) := Lib.hid (in_add32 _ _)
  obtain ⟨a2, ea2⟩ : ∃ z, add32 a1 b1 = z := ⟨_, rfl⟩
  rw [ea2] at Ia2
  have fa2 : (a1 + b1) % 4294967296 = a2 := ea2
  have ga2 : IntKind.u32.wrap (a1 + b1) = a2 := (IntKind.wrap_u32' _).trans ea2
  have Ix2 : Hid (in32 (xor32 d1 a2)) := Lib.hid (in_xor32 Id1.out Ia2.out)
  obtain ⟨x2, ex2⟩ : ∃ z, xor32 d1 a2 = z := ⟨_, rfl⟩
  rw [ex2] at Ix2
  have fx2 : bits .xor .u32 d1 a2 = x2 := (u32_xor _ _ Id1.out.1 Id1.out.2 Ia2.out.1 Ia2.out.2).trans ex2
  have Id2 : Hid (in32 (rot32 8 x2)) := Lib.hid (in_rot32 _ Ix2.out)
  obtain ⟨d2, ed2⟩ : ∃ z, rot32 8 x2 = z := ⟨_, rfl⟩
  rw [ed2] at Id2
  have Ic2 : Hid (in32 (add32 c1 d2)) := Lib.hid (in_add32 _ _)
  obtain ⟨c2, ec2⟩ : ∃ z, add32 c1 d2 = z := ⟨_, rfl⟩
  rw [ec2] at Ic2
  have fc2 : (c1 + d2) % 4294967296 = c2 := ec2
  have gc2 : IntKind.u32.wrap (c1 + d2) = c2 := (IntKind.wrap_u32' _).trans ec2
  have Iy2 : Hid (in32 (xor32 b1 c2)) := Lib.hid (in_xor32 Ib1.out Ic2.out)
  obtain ⟨y2, ey2⟩ : ∃ z, xor32 b1 c2 = z := ⟨_, rfl⟩
  rw [ey2] at Iy2
  have fy2 : bits .xor .u32 b1 c2 = y2 := (u32_xor _ _ Ib1.out.1 Ib1.out.2 Ic2.out.1 Ic2.out.2).trans ey2
  have Ib2 : Hid (in32 (rot32 7 y2)) := Lib.hid (in_rot32 _ Iy2.out)
  obtain ⟨b2, eb2⟩ : ∃ z, rot32 7 y2 = z := ⟨_, rfl⟩
  rw [eb2] at Ib2
  have HR : Hid (quarterF ⟨a, b, c, d⟩ = ⟨a2, b2, c2, d2⟩) := Lib.hid (by
    unfold quarterF halfQ
    simp only [ea1, ex1, ed1, ec1, ey1, eb1, ea2, ex2, ed2, ec2, ey2, eb2])
  clear ea1 ex1 ec1 ey1 ea2 ex2 ec2 ey2
  rw [HR.out]
  go_enter Tryd.func26, Tryd.ntmps26
  go_upto_region 1 with fail
  obtain ⟨W0, hW⟩ : ∃ W0, W0 = ((w.alloc (.cells #[.int .u32 a, .int .u32 b, .int .u32 c, .int .u32 d] 61)).alloc (.cells #[.int .u32 0, .int .u32 0, .int .u32 0, .int .u32 0] 61)) := ⟨_, rfl⟩
  have hB0 : Below w.heap.size w W0 := hW ▸ (Below.al (Below.al (Below.refl _ _)))
  have HS : Hid (Own w.heap.size [.int .u32 a, .int .u32 b, .int .u32 c, .int .u32 d] W0) := Lib.hid (hW ▸ (Own.newAt (by simp)).alloc)
  have HR4 : Hid (Own (w.heap.size + 1) [.int .u32 0, .int .u32 0, .int .u32 0, .int .u32 0] W0) := Lib.hid (hW ▸ (Own.newAt (by simp)))
  rw [← hW]
  clear hW
  obtain ⟨R, eR⟩ : ∃ X, X = (w.heap.size + 1) := ⟨_, rfl⟩
  rw [← eR] at HR4 ⊢
  have Rw : w.heap.size ≤ R := by omega
  obtain ⟨S, eS⟩ : ∃ X, X = w.heap.size := ⟨_, rfl⟩
  rw [← eS] at HS ⊢
  have Sw : w.heap.size ≤ S := by omega
  have nSR : S ≠ R := by omega
  have nRS : R ≠ S := by omega
  clear eS eR
  have oS := HS.out
  have S0 := oS.at 0 _ rfl
  have S1 := oS.at 1 _ rfl
  have S2 := oS.at 2 _ rfl
  have S3 := oS.at 3 _ rfl
  have Sl := oS.lt
  clear oS
  go_quiet (fail)
  have hBd : Below W0.heap.size W0 (W0.drewN nq) := below_drewN (Below.refl _ _) _
  clear S0 S1 S2 S3 Sl
  have HR5 := Lib.hid (HR4.out.later hBd)
  have hB1 := Below.go hB0 hBd
  generalize W0.drewN nq = w0 at *
  clear hBd hB0 HR4 HS
  go_wp2_with (fail)
  go_at_call 28
  refine (rot16_any x1 Ix1.out _).mono ?_
  rintro e w1 ⟨rfl, hb⟩
  rw [ed1]
  have HR6 := Lib.hid (HR5.out.later hb)
  have hB2 := Below.go hB1 hb
  clear hB1 HR5 hb
  have hB1 := hB2
  have HR5 := HR6
  clear hB2 HR6
  go_wp2_with (fail)
  go_at_call 28
  refine (rot12_any y1 Iy1.out _).mono ?_
  rintro e w2 ⟨rfl, hb⟩
  rw [eb1]
  have HR6 := Lib.hid (HR5.out.later hb)
  have hB2 := Below.go hB1 hb
  clear hB1 HR5 hb
  have hB1 := hB2
  have HR5 := HR6
  clear hB2 HR6
  go_wp2_with (fail)
  go_at_call 28
  refine (rot8_any x2 Ix2.out _).mono ?_
  rintro e w3 ⟨rfl, hb⟩
  rw [ed2]
  have HR6 := Lib.hid (HR5.out.later hb)
  have hB2 := Below.go hB1 hb
  clear hB1 HR5 hb
  have hB1 := hB2
  have HR5 := HR6
  clear hB2 HR6
  go_wp2_with (fail)
  go_at_call 28
  refine (rot7_any y2 Iy2.out _).mono ?_
  rintro e w4 ⟨rfl, hb⟩
  rw [eb2]
  have HR6 := Lib.hid (HR5.out.later hb)
  have hB2 := Below.go hB1 hb
  clear hB1 HR5 hb
  have hB1 := hB2
  have HR5 := HR6
  clear hB2 HR6
  have oR := HR5.out
  have R0 := oR.at 0 _ rfl
  have Rf0 := oR.ok 0 (by simp)
  have R1 := oR.at 1 _ rfl
  have Rf1 := oR.ok 1 (by simp)
  have R2 := oR.at 2 _ rfl
  have Rf2 := oR.ok 2 (by simp)
  have R3 := oR.at 3 _ rfl
  have Rf3 := oR.ok 3 (by simp)
  have Rl := oR.lt
  clear oR
  go_wp2_with (fail)
  exact bodyPost_ret (v := (.agg #[.int .u32 a2, .int .u32 b2, .int .u32 c2, .int .u32 d2])) (by simp [results, Tryd.results26, go_sem, R0, R1, R2, R3, Rf0, Rf1, Rf2, Rf3]) rfl ⟨rfl, (by repeat (first | (with_reducible exact Below.refl _ _) | (with_reducible assumption) | (with_reducible refine below_drewN ?_ _) | (with_reducible refine Below.drew ?_) | (with_reducible refine Below.alloc ?_ ?_ _) | (with_reducible refine Below.setCell ?_ ?_ _) | (with_reducible exact Nat.le_refl _) | exact Nat.le_succ _ | (simp; done) | (simp; omega) | omega | fail))⟩

theorem RQuarter_any (a b c d : Int) (ha : in32 a) (hb : in32 b) (hc : in32 c) (hd : in32 d) (w : World) : Calls Tryd.prog 27 #[(.agg #[.int .u32 a, .int .u32 b, .int .u32 c, .int .u32 d])] w fun e w' => e = .returned (.agg #[.int .u32 (quarterF ⟨a, b, c, d⟩).a, .int .u32 (quarterF ⟨a, b, c, d⟩).b, .int .u32 (quarterF ⟨a, b, c, d⟩).c, .int .u32 (quarterF ⟨a, b, c, d⟩).d]) ∧ Below w.heap.size w w' := by
  have Ia := Lib.hid ha; have Ib := Lib.hid hb; have Ic := Lib.hid hc; have Id := Lib.hid hd
  clear ha hb hc hd
  have Ia1 : Hid (in32 (add32 a b)) := Lib.hid (in_add32 _ _)
  obtain ⟨a1, ea1⟩ : ∃ z, add32 a b = z := ⟨_, rfl⟩
  rw [ea1] at Ia1
  have fa1 : (a + b) % 4294967296 = a1 := ea1
  have ga1 : IntKind.u32.wrap (a + b) = a1 := (IntKind.wrap_u32' _).trans ea1
  have Ix1 : Hid (in32 (xor32 d a1)) := Lib.hid (in_xor32 Id.out Ia1.out)
  obtain ⟨x1, ex1⟩ : ∃ z, xor32 d a1 = z := ⟨_, rfl⟩
  rw [ex1] at Ix1
  have fx1 : bits .xor .u32 d a1 = x1 := (u32_xor _ _ Id.out.1 Id.out.2 Ia1.out.1 Ia1.out.2).trans ex1
  have Id1 : Hid (in32 (rot32 16 x1)) := Lib.hid (in_rot32 _ Ix1.out)
  obtain ⟨d1, ed1⟩ : ∃ z, rot32 16 x1 = z := ⟨_, rfl⟩
  rw [ed1] at Id1
  have Ic1 : Hid (in32 (add32 c d1)) := Lib.hid (in_add32 _ _)
  obtain ⟨c1, ec1⟩ : ∃ z, add32 c d1 = z := ⟨_, rfl⟩
  rw [ec1] at Ic1
  have fc1 : (c + d1) % 4294967296 = c1 := ec1
  have gc1 : IntKind.u32.wrap (c + d1) = c1 := (IntKind.wrap_u32' _).trans ec1
  have Iy1 : Hid (in32 (xor32 b c1)) := Lib.hid (in_xor32 Ib.out Ic1.out)
  obtain ⟨y1, ey1⟩ : ∃ z, xor32 b c1 = z := ⟨_, rfl⟩
  rw [ey1] at Iy1
  have fy1 : bits .xor .u32 b c1 = y1 := (u32_xor _ _ Ib.out.1 Ib.out.2 Ic1.out.1 Ic1.out.2).trans ey1
  have Ib1 : Hid (in32 (rot32 12 y1)) := Lib.hid (in_rot32 _ Iy1.out)
  obtain ⟨b1, eb1⟩ : ∃ z, rot32 12 y1 = z := ⟨_, rfl⟩
  rw [eb1] at Ib1
  have Ia2 : Hid (in32 (add32 a1 b1)) := Lib.hid (in_add32 _ _)
  obtain ⟨a2, ea2⟩ : ∃ z, add32 a1 b1 = z := ⟨_, rfl⟩
  rw [ea2] at Ia2
  have fa2 : (a1 + b1) % 4294967296 = a2 := ea2
  have ga2 : IntKind.u32.wrap (a1 + b1) = a2 := (IntKind.wrap_u32' _).trans ea2
  have Ix2 : Hid (in32 (xor32 d1 a2)) := Lib.hid (in_xor32 Id1.out Ia2.out)
  obtain ⟨x2, ex2⟩ : ∃ z, xor32 d1 a2 = z := ⟨_, rfl⟩
  rw [ex2] at Ix2
  have fx2 : bits .xor .u32 d1 a2 = x2 := (u32_xor _ _ Id1.out.1 Id1.out.2 Ia2.out.1 Ia2.out.2).trans ex2
  have Id2 : Hid (in32 (rot32 8 x2)) := Lib.hid (in_rot32 _ Ix2.out)
  obtain ⟨d2, ed2⟩ : ∃ z, rot32 8 x2 = z := ⟨_, rfl⟩
  rw [ed2] at Id2
  have Ic2 : Hid (in32 (add32 c1 d2)) := Lib.hid (in_add32 _ _)
  obtain ⟨c2, ec2⟩ : ∃ z, add32 c1 d2 = z := ⟨_, rfl⟩
  rw [ec2] at Ic2
  have fc2 : (c1 + d2) % 4294967296 = c2 := ec2
  have gc2 : IntKind.u32.wrap (c1 + d2) = c2 := (IntKind.wrap_u32' _).trans ec2
  have Iy2 : Hid (in32 (xor32 b1 c2)) := Lib.hid (in_xor32 Ib1.out Ic2.out)
  obtain ⟨y2, ey2⟩ : ∃ z, xor32 b1 c2 = z := ⟨_, rfl⟩
  rw [ey2] at Iy2
  have fy2 : bits .xor .u32 b1 c2 = y2 := (u32_xor _ _ Ib1.out.1 Ib1.out.2 Ic2.out.1 Ic2.out.2).trans ey2
  have Ib2 : Hid (in32 (rot32 7 y2)) := Lib.hid (in_rot32 _ Iy2.out)
  obtain ⟨b2, eb2⟩ : ∃ z, rot32 7 y2 = z := ⟨_, rfl⟩
  rw [eb2] at Ib2
  have HR : Hid (quarterF ⟨a, b, c, d⟩ = ⟨a2, b2, c2, d2⟩) := Lib.hid (by
    unfold quarterF halfQ
    simp only [ea1, ex1, ed1, ec1, ey1, eb1, ea2, ex2, ed2, ec2, ey2, eb2])
  clear ea1 ex1 ec1 ey1 ea2 ex2 ec2 ey2
  rw [HR.out]
  go_enter Tryd.func27, Tryd.ntmps27
  go_upto_region 1 with fail
  obtain ⟨w0, hW⟩ : ∃ w0, w0 = ((w.alloc (.cells #[.int .u32 a, .int .u32 b, .int .u32 c, .int .u32 d] 61)).alloc (.cells #[.int .u32 0, .int .u32 0, .int .u32 0, .int .u32 0] 61)) := ⟨_, rfl⟩
  have hB0 : Below w.heap.size w w0 := hW ▸ (Below.al (Below.al (Below.refl _ _)))
  have HS : Hid (Own w.heap.size [.int .u32 a, .int .u32 b, .int .u32 c, .int .u32 d] w0) := Lib.hid (hW ▸ (Own.newAt (by simp)).alloc)
  have HR4 : Hid (Own (w.heap.size + 1) [.int .u32 0, .int .u32 0, .int .u32 0, .int .u32 0] w0) := Lib.hid (hW ▸ (Own.newAt (by simp)))
  rw [← hW]
  clear hW
  obtain ⟨R, eR⟩ : ∃ X, X = (w.heap.size + 1) := ⟨_, rfl⟩
  rw [← eR] at HR4 ⊢
  have Rw : w.heap.size ≤ R := by omega
  obtain ⟨S, eS⟩ : ∃ X, X = w.heap.size := ⟨_, rfl⟩
  rw [← eS] at HS ⊢
  have Sw : w.heap.size ≤ S := by omega
  have nSR : S ≠ R := by omega
  have nRS : R ≠ S := by omega
  clear eS eR
  have oS := HS.out
  have S0 := oS.at 0 _ rfl
  have Sf0 := oS.ok 0 (by simp)
  have S1 := oS.at 1 _ rfl
  have Sf1 := oS.ok 1 (by simp)
  have S2 := oS.at 2 _ rfl
  have Sf2 := oS.ok 2 (by simp)
  have S3 := oS.at 3 _ rfl
  have Sf3 := oS.ok 3 (by simp)
  have Sl := oS.lt
  clear oS
  go_wp2_with (fail)
  go_at_call 29
  refine (turn16_any x1 Ix1.out _).mono ?_
  rintro e w1 ⟨rfl, hb⟩
  rw [ed1]
  have HS2 : Hid (Own S [.int .u32 a1, .int .u32 b, .int .u32 c, .int .u32 d] w1) := Lib.hid (Own.later (show Own S [.int .u32 a1, .int .u32 b, .int .u32 c, .int .u32 d] _ from Own.part (o := 0) (vs := [.int .u32 a1]) HS.out (by simp)) hb)
  have HR6 : Hid (Own R [.int .u32 0, .int .u32 0, .int .u32 0, .int .u32 0] w1) := Lib.hid (Own.later (Own.far (c := S) (o := 0) (vs := [.int .u32 a1]) HR4.out nRS) hb)
  have hB1 : Below w.heap.size w w1 := Below.go (Below.setCells hB0 Sw [.int .u32 a1] 0) hb
  clear S0 Sf0 S1 Sf1 S2 Sf2 S3 Sf3 Sl HS HR4 hB0 hb
  have HS := HS2
  have HR4 := HR6
  have hB0 := hB1
  clear HS2 HR6 hB1
  have oS := HS.out
  have S0 := oS.at 0 _ rfl
  have Sf0 := oS.ok 0 (by simp)
  have S1 := oS.at 1 _ rfl
  have Sf1 := oS.ok 1 (by simp)
  have S2 := oS.at 2 _ rfl
  have Sf2 := oS.ok 2 (by simp)
  have S3 := oS.at 3 _ rfl
  have Sf3 := oS.ok 3 (by simp)
  have Sl := oS.lt
  clear oS
  go_wp2_with (fail)
  go_at_call 29
  refine (turn12_any y1 Iy1.out _).mono ?_
  rintro e w2 ⟨rfl, hb⟩
  rw [eb1]
  have HS2 : Hid (Own S [.int .u32 a1, .int .u32 b, .int .u32 c1, .int .u32 d1] w2) := Lib.hid (Own.later (show Own S [.int .u32 a1, .int .u32 b, .int .u32 c1, .int .u32 d1] _ from Own.part (o := 2) (vs := [.int .u32 c1]) (show Own S [.int .u32 a1, .int .u32 b, .int .u32 c, .int .u32 d1] _ from Own.part (o := 3) (vs := [.int .u32 d1]) HS.out (by simp)) (by simp)) hb)
  have HR6 : Hid (Own R [.int .u32 0, .int .u32 0, .int .u32 0, .int .u32 0] w2) := Lib.hid (Own.later (Own.far (c := S) (o := 2) (vs := [.int .u32 c1]) (Own.far (c := S) (o := 3) (vs := [.int .u32 d1]) HR4.out nRS) nRS) hb)
  have hB1 : Below w.heap.size w w2 := Below.go (Below.setCells (Below.setCells hB0 Sw [.int .u32 d1] 3) Sw [.int .u32 c1] 2) hb
  clear S0 Sf0 S1 Sf1 S2 Sf2 S3 Sf3 Sl HS HR4 hB0 hb
  have HS := HS2
  have HR4 := HR6
  have hB0 := hB1
  clear HS2 HR6 hB1
  have oS := HS.out
  have S0 := oS.at 0 _ rfl
  have Sf0 := oS.ok 0 (by simp)
  have S1 := oS.at 1 _ rfl
  have Sf1 := oS.ok 1 (by simp)
  have S2 := oS.at 2 _ rfl
  have Sf2 := oS.ok 2 (by simp)
  have S3 := oS.at 3 _ rfl
  have Sf3 := oS.ok 3 (by simp)
  have Sl := oS.lt
  clear oS
  go_wp2_with (fail)
  go_at_call 29
  refine (turn8_any x2 Ix2.out _).mono ?_
  rintro e w3 ⟨rfl, hb⟩
  rw [ed2]
  have HS2 : Hid (Own S [.int .u32 a2, .int .u32 b1, .int .u32 c1, .int .u32 d1] w3) := Lib.hid (Own.later (show Own S [.int .u32 a2, .int .u32 b1, .int .u32 c1, .int .u32 d1] _ from Own.part (o := 0) (vs := [.int .u32 a2]) (show Own S [.int .u32 a1, .int .u32 b1, .int .u32 c1, .int .u32 d1] _ from Own.part (o := 1) (vs := [.int .u32 b1]) HS.out (by simp)) (by simp)) hb)
  have HR6 : Hid (Own R [.int .u32 0, .int .u32 0, .int .u32 0, .int .u32 0] w3) := Lib.hid (Own.later (Own.far (c := S) (o := 0) (vs := [.int .u32 a2]) (Own.far (c := S) (o := 1) (vs := [.int .u32 b1]) HR4.out nRS) nRS) hb)
  have hB1 : Below w.heap.size w w3 := Below.go (Below.setCells (Below.setCells hB0 Sw [.int .u32 b1] 1) Sw [.int .u32 a2] 0) hb
  clear S0 Sf0 S1 Sf1 S2 Sf2 S3 Sf3 Sl HS HR4 hB0 hb
  have HS := HS2
  have HR4 := HR6
  have hB0 := hB1
  clear HS2 HR6 hB1
  have oS := HS.out
  have S0 := oS.at 0 _ rfl
  have Sf0 := oS.ok 0 (by simp)
  have S1 := oS.at 1 _ rfl
  have Sf1 := oS.ok 1 (by simp)
  have S2 := oS.at 2 _ rfl
  have Sf2 := oS.ok 2 (by simp)
  have S3 := oS.at 3 _ rfl
  have Sf3 := oS.ok 3 (by simp)
  have Sl := oS.lt
  clear oS
  go_wp2_with (fail)
  go_at_call 29
  refine (turn7_any y2 Iy2.out _).mono ?_
  rintro e w4 ⟨rfl, hb⟩
  rw [eb2]
  have HS2 : Hid (Own S [.int .u32 a2, .int .u32 b1, .int .u32 c2, .int .u32 d2] w4) := Lib.hid (Own.later (show Own S [.int .u32 a2, .int .u32 b1, .int .u32 c2, .int .u32 d2] _ from Own.part (o := 2) (vs := [.int .u32 c2]) (show Own S [.int .u32 a2, .int .u32 b1, .int .u32 c1, .int .u32 d2] _ from Own.part (o := 3) (vs := [.int .u32 d2]) HS.out (by simp)) (by simp)) hb)
  have HR6 : Hid (Own R [.int .u32 0, .int .u32 0, .int .u32 0, .int .u32 0] w4) := Lib.hid (Own.later (Own.far (c := S) (o := 2) (vs := [.int .u32 c2]) (Own.far (c := S) (o := 3) (vs := [.int .u32 d2]) HR4.out nRS) nRS) hb)
  have hB1 : Below w.heap.size w w4 := Below.go (Below.setCells (Below.setCells hB0 Sw [.int .u32 d2] 3) Sw [.int .u32 c2] 2) hb
  clear S0 Sf0 S1 Sf1 S2 Sf2 S3 Sf3 Sl HS HR4 hB0 hb
  have HS := HS2
  have HR4 := HR6
  have hB0 := hB1
  clear HS2 HR6 hB1
  have oS := HS.out
  have S0 := oS.at 0 _ rfl
  have Sf0 := oS.ok 0 (by simp)
  have S1 := oS.at 1 _ rfl
  have Sf1 := oS.ok 1 (by simp)
  have S2 := oS.at 2 _ rfl
  have Sf2 := oS.ok 2 (by simp)
  have S3 := oS.at 3 _ rfl
  have Sf3 := oS.ok 3 (by simp)
  have Sl := oS.lt
  clear oS
  have oR := HR4.out
  have R0 := oR.at 0 _ rfl
  have Rf0 := oR.ok 0 (by simp)
  have R1 := oR.at 1 _ rfl
  have Rf1 := oR.ok 1 (by simp)
  have R2 := oR.at 2 _ rfl
  have Rf2 := oR.ok 2 (by simp)
  have R3 := oR.at 3 _ rfl
  have Rf3 := oR.ok 3 (by simp)
  have Rl := oR.lt
  clear oR
  go_wp2_with (fail)
  exact bodyPost_ret (v := (.agg #[.int .u32 a2, .int .u32 b2, .int .u32 c2, .int .u32 d2])) (by simp [results, Tryd.results27, go_sem, R0, R1, R2, R3, Rf0, Rf1, Rf2, Rf3, S0, S1, S2, S3, Sf0, Sf1, Sf2, Sf3]) rfl ⟨rfl, (by repeat (first | (with_reducible exact Below.refl _ _) | (with_reducible assumption) | (with_reducible refine below_drewN ?_ _) | (with_reducible refine Below.drew ?_) | (with_reducible refine Below.alloc ?_ ?_ _) | (with_reducible refine Below.setCell ?_ ?_ _) | (with_reducible exact Nat.le_refl _) | exact Nat.le_succ _ | (simp; done) | (simp; omega) | omega | fail))⟩
end Go.Proofs.YtbepgbpmgiihbaaDoor
