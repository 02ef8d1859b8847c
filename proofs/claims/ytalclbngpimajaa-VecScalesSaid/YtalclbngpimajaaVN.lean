/- umbralaw03.VecScales, VecProducts, VecUnits: true of any vectors. -/
import Derived.Test.YtalclbngpimajaaVM
import Derived.Test.YtalclbngpimajaaVG
namespace Go.Proofs.Ytalclbngpimajaa
set_option linter.unusedVariables false
set_option maxRecDepth 2000
set_option linter.unusedSimpArgs false
open Go.RowKit
attribute [local go_sem] setCell_twice setCell_pair

theorem Products_walk (x1 y1 z1 x2 y2 z2 : Int) (hx1 : in64 x1) (hy1 : in64 y1) (hz1 : in64 z1) (hx2 : in64 x2) (hy2 : in64 y2) (hz2 : in64 z2) (w : World) :
    Calls Try.prog 5 #[(.agg #[.int .i64 x1, .int .i64 y1, .int .i64 z1]), (.agg #[.int .i64 x2, .int .i64 y2, .int .i64 z2])] w fun e w' => e = .returned (.bool true) ∧ Below w.heap.size w w' :=
  Products_core x1 y1 z1 x2 y2 z2 _ _ _ _ _ w (fun w => VDot_any x1 y1 z1 x2 y2 z2 hx1 hy1 hz1 hx2 hy2 hz2 w) (fun w => RVDot_any x1 y1 z1 x2 y2 z2 hx1 hy1 hz1 hx2 hy2 hz2 w)
    (fun w => VCross_any x1 y1 z1 x2 y2 z2 hx1 hy1 hz1 hx2 hy2 hz2 w) (fun w => RVCross_any x1 y1 z1 x2 y2 z2 hx1 hy1 hz1 hx2 hy2 hz2 w) (fun w => VMost_any x1 y1 z1 hx1 hy1 hz1 w) (fun w => RVMost_any x1 y1 z1 hx1 hy1 hz1 w) (fun w => vworks_any w)

theorem sumSq_nonneg (x y z : Int) : 0 ≤ x * x + y * y + z * z := by
  have hx := abs_sq x
  have hy := abs_sq y
  have hz := abs_sq z
  have px := Int.mul_nonneg (show (0 : Int) ≤ x.natAbs by omega) (show (0 : Int) ≤ x.natAbs by omega)
  have py := Int.mul_nonneg (show (0 : Int) ≤ y.natAbs by omega) (show (0 : Int) ≤ y.natAbs by omega)
  have pz := Int.mul_nonneg (show (0 : Int) ≤ z.natAbs by omega) (show (0 : Int) ≤ z.natAbs by omega)
  omega

theorem Units_walk (x1 y1 z1 x2 y2 z2 : Int) (hx1 : in64 x1) (hy1 : in64 y1) (hz1 : in64 z1) (w : World) :
    Calls Try.prog 6 #[(.agg #[.int .i64 x1, .int .i64 y1, .int .i64 z1]), (.agg #[.int .i64 x2, .int .i64 y2, .int .i64 z2])] w fun e w' => e = .returned (.bool true) ∧ Below w.heap.size w w' := by
  obtain ⟨s, s1, s2⟩ := exists_root _ (sumSq_nonneg x1 y1 z1)
  obtain ⟨q, q1, q2⟩ := exists_root (sumQ x2 y2 z2 * 18446744073709551616) (by have := sumQ_bd x2 y2 z2; omega)
  exact Units_core x1 y1 z1 x2 y2 z2 _ _ _ _ _ _ _ w (fun w => VLength_any x1 y1 z1 s hx1 hy1 hz1 s1 s2 w) (fun w => RVLength_any x1 y1 z1 s hx1 hy1 hz1 s1 s2 w) (fun w => VUnit_any x1 y1 z1 s hx1 hy1 hz1 s1 s2 w) (fun w => RVUnit_any x1 y1 z1 s hx1 hy1 hz1 s1 s2 w)
    (fun w => VToward_any x2 y2 z2 q q1 q2 w) (fun w => RVToward_any x2 y2 z2 q q1 q2 w) (fun w => vworks_any w)

theorem VScale_any (x1 y1 z1 k : Int) (hx1 : in64 x1) (hy1 : in64 y1) (hz1 : in64 z1) (hk : in64 k) (w : World) :
    Calls Try.prog 22 #[(.agg #[.int .i64 x1, .int .i64 y1, .int .i64 z1]), .int .i64 k] w fun e w' => e = .returned (.agg #[.int .i64 (mulF x1 k), .int .i64 (mulF y1 k), .int .i64 (mulF z1 k)]) ∧ Below w.heap.size w w' :=
  VScale_core x1 y1 z1 k _ _ _ w (Lib.hid fun w b hb hc => eachScale_any x1 y1 z1 k b hx1 hy1 hz1 hk w hb hc)
theorem RVScale_any (x1 y1 z1 k : Int) (hx1 : in64 x1) (hy1 : in64 y1) (hz1 : in64 z1) (hk : in64 k) (w : World) :
    Calls Try.prog 23 #[(.agg #[.int .i64 x1, .int .i64 y1, .int .i64 z1]), .int .i64 k] w fun e w' => e = .returned (.agg #[.int .i64 (mulF x1 k), .int .i64 (mulF y1 k), .int .i64 (mulF z1 k)]) ∧ Below w.heap.size w w' :=
  RVScale_core x1 y1 z1 k _ _ _ w (fun w => RTimes_any x1 k hx1.1 hx1.2 hk.1 hk.2 w) (fun w => RTimes_any y1 k hy1.1 hy1.2 hk.1 hk.2 w) (fun w => RTimes_any z1 k hz1.1 hz1.2 hk.1 hk.2 w)
theorem VLerp_any (x1 y1 z1 x2 y2 z2 k : Int) (hx1 : in64 x1) (hy1 : in64 y1) (hz1 : in64 z1) (hx2 : in64 x2) (hy2 : in64 y2) (hz2 : in64 z2) (hk : in64 k) (w : World) :
    Calls Try.prog 24 #[(.agg #[.int .i64 x1, .int .i64 y1, .int .i64 z1]), (.agg #[.int .i64 x2, .int .i64 y2, .int .i64 z2]), .int .i64 k] w fun e w' => e = .returned (.agg #[.int .i64 (lerpF x1 x2 k), .int .i64 (lerpF y1 y2 k), .int .i64 (lerpF z1 z2 k)]) ∧ Below w.heap.size w w' :=
  VLerp_core x1 y1 z1 x2 y2 z2 k _ _ _ w (Lib.hid fun w b hb hc => pairLerp_any x1 y1 z1 x2 y2 z2 k b hx1 hy1 hz1 hx2 hy2 hz2 hk w hb hc)
theorem RVLerp_any (x1 y1 z1 x2 y2 z2 k : Int) (hx1 : in64 x1) (hy1 : in64 y1) (hz1 : in64 z1) (hx2 : in64 x2) (hy2 : in64 y2) (hz2 : in64 z2) (hk : in64 k) (w : World) :
    Calls Try.prog 25 #[(.agg #[.int .i64 x1, .int .i64 y1, .int .i64 z1]), (.agg #[.int .i64 x2, .int .i64 y2, .int .i64 z2]), .int .i64 k] w fun e w' => e = .returned (.agg #[.int .i64 (lerpF x1 x2 k), .int .i64 (lerpF y1 y2 k), .int .i64 (lerpF z1 z2 k)]) ∧ Below w.heap.size w w' :=
  RVLerp_core x1 y1 z1 x2 y2 z2 k _ _ _ w (fun w => RLerp_any x1 x2 k hx1 hx2 hk w) (fun w => RLerp_any y1 y2 k hy1 hy2 hk w) (fun w => RLerp_any z1 z2 k hz1 hz2 hk w)

theorem Scales_walk (x1 y1 z1 x2 y2 z2 k : Int) (hx1 : in64 x1) (hy1 : in64 y1) (hz1 : in64 z1) (hx2 : in64 x2) (hy2 : in64 y2) (hz2 : in64 z2) (hk : in64 k) (w : World) :
    Calls Try.prog 4 #[(.agg #[.int .i64 x1, .int .i64 y1, .int .i64 z1]), (.agg #[.int .i64 x2, .int .i64 y2, .int .i64 z2]), .int .i64 k] w fun e w' => e = .returned (.bool true) ∧ Below w.heap.size w w' :=
  Scales_core x1 y1 z1 x2 y2 z2 k _ _ _ _ _ _ _ _ _ w (fun w => VScale_any x1 y1 z1 k hx1 hy1 hz1 hk w) (fun w => RVScale_any x1 y1 z1 k hx1 hy1 hz1 hk w)
    (fun w => VLerp_any x1 y1 z1 x2 y2 z2 k hx1 hy1 hz1 hx2 hy2 hz2 hk w) (fun w => RVLerp_any x1 y1 z1 x2 y2 z2 k hx1 hy1 hz1 hx2 hy2 hz2 hk w) (fun w => VOf_any x1 y1 z1 hx1 hy1 hz1 w) (fun w => RVOf_any x1 y1 z1 hx1 hy1 hz1 w) (fun w => vworks_any w)
end Go.Proofs.Ytalclbngpimajaa
