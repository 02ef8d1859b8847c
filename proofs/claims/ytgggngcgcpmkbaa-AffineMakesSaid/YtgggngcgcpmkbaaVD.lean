/- Package vec: what each call gives. -/
import Derived.Test.YtgggngcgcpmkbaaVC
namespace Go.Proofs.Ytgggngcgcpmkbaa
set_option linter.unusedVariables false
set_option maxRecDepth 2000
open Go.RowKit
attribute [local go_sem] setCell_twice setCell_pair

theorem below_of_eq {P : Program} {k : Nat} {ar : Array Value} {w : World} {v : Value} (h : Calls P k ar w fun e w' => e = .returned v ∧ w = w') : Calls P k ar w fun e w' => e = .returned v ∧ Below w.heap.size w w' :=
  h.mono fun _ _ ⟨a, b⟩ => ⟨a, b ▸ Below.refl _ _⟩

theorem pairAdd_any (x1 y1 z1 x2 y2 z2 : Int) (hx1 : in64 x1) (hy1 : in64 y1) (hz1 : in64 z1) (hx2 : in64 x2) (hy2 : in64 y2) (hz2 : in64 z2) (w : World) :
    Calls Try.prog 121 #[(.agg #[.int .i64 x1, .int .i64 y1, .int .i64 z1]), (.agg #[.int .i64 x2, .int .i64 y2, .int .i64 z2]), .func (.func 122) #[] #[]] w fun e w' => e = .returned (.agg #[.int .i64 (sat (x1 + x2)), .int .i64 (sat (y1 + y2)), .int .i64 (sat (z1 + z2))]) ∧ Below w.heap.size w w' :=
  pair_core 122 #[] x1 y1 z1 x2 y2 z2 _ _ _ w (fun _ _ => rfl) (fun wx _ => cAdd_any x1 x2 hx1 hx2 wx) (fun wx _ => cAdd_any y1 y2 hy1 hy2 wx) (fun wx _ => cAdd_any z1 z2 hz1 hz2 wx)

theorem pairTimes_any (x1 y1 z1 x2 y2 z2 : Int) (hx1 : in64 x1) (hy1 : in64 y1) (hz1 : in64 z1) (hx2 : in64 x2) (hy2 : in64 y2) (hz2 : in64 z2) (w : World) :
    Calls Try.prog 121 #[(.agg #[.int .i64 x1, .int .i64 y1, .int .i64 z1]), (.agg #[.int .i64 x2, .int .i64 y2, .int .i64 z2]), .func (.func 131) #[] #[]] w fun e w' => e = .returned (.agg #[.int .i64 (mulF x1 x2), .int .i64 (mulF y1 y2), .int .i64 (mulF z1 z2)]) ∧ Below w.heap.size w w' :=
  pair_core 131 #[] x1 y1 z1 x2 y2 z2 _ _ _ w (fun _ _ => rfl) (fun wx _ => cTimes_any x1 x2 hx1 hx2 wx) (fun wx _ => cTimes_any y1 y2 hy1 hy2 wx) (fun wx _ => cTimes_any z1 z2 hz1 hz2 wx)

theorem pairSub_any (x1 y1 z1 x2 y2 z2 : Int) (hx1 : in64 x1) (hy1 : in64 y1) (hz1 : in64 z1) (hx2 : in64 x2) (hy2 : in64 y2) (hz2 : in64 z2) (w : World) :
    Calls Try.prog 121 #[(.agg #[.int .i64 x1, .int .i64 y1, .int .i64 z1]), (.agg #[.int .i64 x2, .int .i64 y2, .int .i64 z2]), .func (.func 124) #[] #[]] w fun e w' => e = .returned (.agg #[.int .i64 (sat (x1 - x2)), .int .i64 (sat (y1 - y2)), .int .i64 (sat (z1 - z2))]) ∧ Below w.heap.size w w' :=
  pair_core 124 #[] x1 y1 z1 x2 y2 z2 _ _ _ w (fun _ _ => rfl) (fun wx _ => below_of_eq (FSub_any x1 x2 hx1.1 hx1.2 hx2.1 hx2.2 wx)) (fun wx _ => below_of_eq (FSub_any y1 y2 hy1.1 hy1.2 hy2.1 hy2.2 wx)) (fun wx _ => below_of_eq (FSub_any z1 z2 hz1.1 hz1.2 hz2.1 hz2.2 wx))

def absF (x : Int) : Int := if x < 0 then sat (-x) else x
theorem eachAbs_any (x y z : Int) (hx : in64 x) (hy : in64 y) (hz : in64 z) (w : World) :
    Calls Try.prog 99 #[.int .i64 x, .int .i64 y, .int .i64 z, .func (.func 100) #[] #[]] w fun e w' => e = .returned (.agg #[.int .i64 (absF x), .int .i64 (absF y), .int .i64 (absF z)]) ∧ Below w.heap.size w w' :=
  eachF_core 100 #[] x y z _ _ _ w (fun _ _ => rfl) (fun wx h => below_of_eq (FAbs_any x hx.1 hx.2 wx)) (fun wx h => below_of_eq (FAbs_any y hy.1 hy.2 wx)) (fun wx h => below_of_eq (FAbs_any z hz.1 hz.2 wx))

theorem eachOf_any (x y z : Int) (hx : in64 x) (hy : in64 y) (hz : in64 z) (w : World) :
    Calls Try.prog 94 #[.int .i64 x, .int .i64 y, .int .i64 z, .func (.func 58) #[] #[]] w fun e w' => e = .returned (.agg #[.int .i64 (sat (x * 4294967296)), .int .i64 (sat (y * 4294967296)), .int .i64 (sat (z * 4294967296))]) ∧ Below w.heap.size w w' :=
  eachI_core 58 #[] x y z _ _ _ w (fun _ _ => rfl) (fun wx h => FOf_any x hx.1 hx.2 wx) (fun wx h => FOf_any y hy.1 hy.2 wx) (fun wx h => FOf_any z hz.1 hz.2 wx)

/-- a place's part, kept within 2^30, as a Fix -/
def partF (n : Int) : Int := min (max n (-1073741824)) 1073741824
theorem partF_bd (n : Int) : -1073741824 ≤ partF n ∧ partF n ≤ 1073741824 := by unfold partF; omega
theorem VOf_core (x1 y1 z1 X Y Z : Int) (w : World)
    (H : Hid (∀ w, Calls Try.prog 94 #[.int .i64 x1, .int .i64 y1, .int .i64 z1, .func (.func 58) #[] #[]] w fun e w' => e = .returned (.agg #[.int .i64 X, .int .i64 Y, .int .i64 Z]) ∧ Below w.heap.size w w')) :
    Calls Try.prog 59 #[(.agg #[.int .i64 x1, .int .i64 y1, .int .i64 z1])] w fun e w' => e = .returned (.agg #[.int .i64 X, .int .i64 Y, .int .i64 Z]) ∧ Below w.heap.size w w' := by
  go_enter Try.func59, Try.ntmps59
  go_wp2_with (fail); go_at_call 94; refine (H.out _).mono ?_; rintro e w1 ⟨rfl, hb⟩
  have hB : Below w.heap.size w w1 := below_step (by repeat (first | exact Below.refl _ _ | assumption | refine below_drewN ?_ _ | refine Below.drew ?_ | refine Below.alloc ?_ (by first | omega | (simp; done) | (simp; omega)) _ | refine Below.setCell ?_ (by first | (simp; done) | (simp; omega)) _)) hb
  have hz : w.heap.size + 1 < w1.heap.size := (by have := hb.size; (try simp at this); omega)
  have c0 := hb.cell (p := ⟨w.heap.size + 1, 0, none⟩) (by first | omega | (simp; done) | (simp; omega))
  have g0 := hb.frozen (p := ⟨w.heap.size + 1, 0, none⟩) (by first | omega | (simp; done) | (simp; omega))
  have c1 := hb.cell (p := ⟨w.heap.size + 1, 1, none⟩) (by first | omega | (simp; done) | (simp; omega))
  have g1 := hb.frozen (p := ⟨w.heap.size + 1, 1, none⟩) (by first | omega | (simp; done) | (simp; omega))
  have c2 := hb.cell (p := ⟨w.heap.size + 1, 2, none⟩) (by first | omega | (simp; done) | (simp; omega))
  have g2 := hb.frozen (p := ⟨w.heap.size + 1, 2, none⟩) (by first | omega | (simp; done) | (simp; omega))
  simp [go_sem] at c0 g0 c1 g1 c2 g2
  clear hb
  go_wp2
  exact bodyPost_ret (v := (.agg #[.int .i64 X, .int .i64 Y, .int .i64 Z])) (by simp [results, Try.results59, go_sem, c0, c1, c2]) rfl ⟨rfl, (by repeat (first | exact Below.refl _ _ | assumption | refine below_drewN ?_ _ | refine Below.drew ?_ | refine Below.alloc ?_ (by first | omega | (simp; done) | (simp; omega)) _ | refine Below.setCell ?_ (by first | (simp; done) | (simp; omega)) _))⟩
end Go.Proofs.Ytgggngcgcpmkbaa
