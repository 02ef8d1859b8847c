/- umbralaw04.AffineGrid: true of any transform and any place. -/
import Derived.Test.YtalanlekdgobmaaAP
import Derived.Test.YtalanlekdgobmaaAT
namespace Go.Proofs.Ytalanlekdgobmaa
set_option linter.unusedVariables false
set_option maxRecDepth 2000
set_option linter.unusedSimpArgs false
open Go.RowKit
attribute [local go_sem] setCell_twice setCell_pair

theorem Grid_walk (a : Aff) (px py pz : Int) (ha : inA a) (hx : in64 px) (hy : in64 py) (hz : in64 pz) (w : World) : Calls Try.prog 9 #[(.agg #[.int .i64 a.m0, .int .i64 a.m1, .int .i64 a.m2, .int .i64 a.m3, .int .i64 a.m4, .int .i64 a.m5, .int .i64 a.m6, .int .i64 a.m7, .int .i64 a.m8, .int .i64 a.tx, .int .i64 a.ty, .int .i64 a.tz]), (.agg #[.int .i64 px, .int .i64 py, .int .i64 pz])] w fun e w' => e = .returned (.bool true) ∧ Below w.heap.size w w' := by
  have pl := fun w => Place_any a px py pz ha hx hy hz w
  have ps := fun w => Place_any sameA px py pz in_sameA hx hy hz w
  rw [place_same] at ps
  have rx := rnd_wh px; have ry := rnd_wh py; have rz := rnd_wh pz
  have wk := fun w => works_any w
  -- the second half
  have on_yes : (-65536 ≤ px ∧ px ≤ 65536 ∧ -65536 ≤ py ∧ py ≤ 65536 ∧ -65536 ≤ pz ∧ pz ≤ 65536) → snapV (rnd (wh px)) (rnd (wh py)) (rnd (wh pz)) = .tuple #[(.agg #[.int .i64 px, .int .i64 py, .int .i64 pz]), .int .i64 0] := fun h => by
    rw [rx.2.2 h.1 h.2.1, ry.2.2 h.2.2.1 h.2.2.2.1, rz.2.2 h.2.2.2.2.1 h.2.2.2.2.2]
    exact snapV_yes px py pz h
  have on_no : ¬ (-65536 ≤ px ∧ px ≤ 65536 ∧ -65536 ≤ py ∧ py ≤ 65536 ∧ -65536 ≤ pz ∧ pz ≤ 65536) → snapV (rnd (wh px)) (rnd (wh py)) (rnd (wh pz)) = .tuple #[(.agg #[.int .i64 0, .int .i64 0, .int .i64 0]), .int .i64 8] := fun h =>
    snapV_no _ _ _ (by rw [rx.1, rx.2.1, ry.1, ry.2.1, rz.1, rz.2.1]; exact h)
  by_cases hc : chkA a = 0
  · rw [show placeV a px py pz = _ from if_pos hc] at pl
    generalize placeX a px py pz = X at pl
    generalize placeY a px py pz = Y at pl
    generalize placeZ a px py pz = Z at pl
    by_cases hq : -65536 ≤ X ∧ X ≤ 65536 ∧ -65536 ≤ Y ∧ Y ≤ 65536 ∧ -65536 ≤ Z ∧ Z ≤ 65536
    · rw [snapV_yes X Y Z hq] at pl
      have of := fun w => VOf_any X Y Z (by unfold in64; omega) (by unfold in64; omega) (by unfold in64; omega) w
      have sn := fun w => Snap_any (wh X) (wh Y) (wh Z) (wh_in _) (wh_in _) (wh_in _) w
      rw [(rnd_wh X).2.2 hq.1 hq.2.1, (rnd_wh Y).2.2 hq.2.2.1 hq.2.2.2.1, (rnd_wh Z).2.2 hq.2.2.2.2.1 hq.2.2.2.2.2, snapV_yes X Y Z hq] at sn
      by_cases h : -65536 ≤ px ∧ px ≤ 65536 ∧ -65536 ≤ py ∧ py ≤ 65536 ∧ -65536 ≤ pz ∧ pz ≤ 65536
      · rw [on_yes h] at ps
        exact Grid_ay a px py pz X Y Z _ _ _ hq h w pl of sn Same_any ps wk
      · rw [on_no h] at ps
        exact Grid_an a px py pz X Y Z _ _ _ hq h w pl of sn Same_any ps wk
    · rw [snapV_no X Y Z hq] at pl
      by_cases h : -65536 ≤ px ∧ px ≤ 65536 ∧ -65536 ≤ py ∧ py ≤ 65536 ∧ -65536 ≤ pz ∧ pz ≤ 65536
      · rw [on_yes h] at ps
        exact Grid_by a px py pz 0 0 0 8 rfl h w pl Same_any ps wk
      · rw [on_no h] at ps
        exact Grid_bn a px py pz 0 0 0 8 rfl h w pl Same_any ps wk
  · rw [show placeV a px py pz = _ from if_neg hc] at pl
    by_cases h : -65536 ≤ px ∧ px ≤ 65536 ∧ -65536 ≤ py ∧ py ≤ 65536 ∧ -65536 ≤ pz ∧ pz ≤ 65536
    · rw [on_yes h] at ps
      exact Grid_by a px py pz 0 0 0 (chkA a) (by simpa using hc) h w pl Same_any ps wk
    · rw [on_no h] at ps
      exact Grid_bn a px py pz 0 0 0 (chkA a) (by simpa using hc) h w pl Same_any ps wk
end Go.Proofs.Ytalanlekdgobmaa
