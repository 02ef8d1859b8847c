/- Two transforms that are the same compare as such; numbers of transforms that change nothing. -/
import Derived.Test.YtgggngcgcpmkbaaAM
namespace Go.Proofs.Ytgggngcgcpmkbaa
set_option linter.unusedVariables false
set_option maxRecDepth 2000
set_option linter.unusedSimpArgs false
open Go.RowKit
attribute [local go_sem] setCell_twice setCell_pair

theorem eq_arr9 (d : Nat) (z0 z1 z2 z3 z4 z5 z6 z7 z8 : Int) (w : World) : (Op.equalIn (d + 2) 78 (.agg #[.int .i64 z0, .int .i64 z1, .int .i64 z2, .int .i64 z3, .int .i64 z4, .int .i64 z5, .int .i64 z6, .int .i64 z7, .int .i64 z8]) (.agg #[.int .i64 z0, .int .i64 z1, .int .i64 z2, .int .i64 z3, .int .i64 z4, .int .i64 z5, .int .i64 z6, .int .i64 z7, .int .i64 z8])).run Try.prog w = .ok true w := by
  rw [Op.equalIn]
  simp only [Sem.run_bind, run_underlying Try.underlying78, Result.andThen_ok]
  simp [go_sem, List.range']
theorem eqA (m0 m1 m2 m3 m4 m5 m6 m7 m8 tx ty tz : Int) (w : World) : (binOp .eql 80 (.agg #[.int .i64 m0, .int .i64 m1, .int .i64 m2, .int .i64 m3, .int .i64 m4, .int .i64 m5, .int .i64 m6, .int .i64 m7, .int .i64 m8, .int .i64 tx, .int .i64 ty, .int .i64 tz]) (.agg #[.int .i64 m0, .int .i64 m1, .int .i64 m2, .int .i64 m3, .int .i64 m4, .int .i64 m5, .int .i64 m6, .int .i64 m7, .int .i64 m8, .int .i64 tx, .int .i64 ty, .int .i64 tz])).run Try.prog w = .ok (.bool true) w := by
  have h := eq_arr9 9997 m0 m1 m2 m3 m4 m5 m6 m7 m8 w
  rw [run_eql_struct]
  simp [go_sem, h]
theorem neqA (m0 m1 m2 m3 m4 m5 m6 m7 m8 tx ty tz : Int) (w : World) : (binOp .neq 80 (.agg #[.int .i64 m0, .int .i64 m1, .int .i64 m2, .int .i64 m3, .int .i64 m4, .int .i64 m5, .int .i64 m6, .int .i64 m7, .int .i64 m8, .int .i64 tx, .int .i64 ty, .int .i64 tz]) (.agg #[.int .i64 m0, .int .i64 m1, .int .i64 m2, .int .i64 m3, .int .i64 m4, .int .i64 m5, .int .i64 m6, .int .i64 m7, .int .i64 m8, .int .i64 tx, .int .i64 ty, .int .i64 tz])).run Try.prog w = .ok (.bool false) w := by
  have h := eq_arr9 9997 m0 m1 m2 m3 m4 m5 m6 m7 m8 w
  rw [run_neq_struct]
  simp [go_sem, h]

theorem mulO (x : Int) (h : in64 x) : mulF 4294967296 x = x := mulF_one x h
theorem mulO' (x : Int) (h : in64 x) : mulF x 4294967296 = x := by rw [mulF_comm]; exact mulO x h
theorem mulN (x : Int) : mulF 0 x = 0 := by unfold mulF; rw [Int.zero_mul]; rfl
theorem mulN' (x : Int) : mulF x 0 = 0 := by rw [mulF_comm]; exact mulN x
theorem sat_id (x : Int) (h : in64 x) : sat x = x := sat_in x h.1 h.2
theorem in64_0 : in64 0 := by unfold in64; omega
theorem dot_100 (x y z : Int) (h : in64 x) : dotF 4294967296 0 0 x y z = x := by
  unfold dotF
  rw [mulO x h, mulN, mulN]
  simp only [Int.add_zero, Int.zero_add, sat_id x h, sat_id 0 in64_0]
theorem dot_100' (x y z : Int) (h : in64 x) : dotF x y z 4294967296 0 0 = x := by
  unfold dotF
  rw [mulO' x h, mulN', mulN']
  simp only [Int.add_zero, Int.zero_add, sat_id x h, sat_id 0 in64_0]
theorem dot_010 (x y z : Int) (h : in64 y) : dotF 0 4294967296 0 x y z = y := by
  unfold dotF
  rw [mulO y h, mulN, mulN]
  simp only [Int.add_zero, Int.zero_add, sat_id y h, sat_id 0 in64_0]
theorem dot_010' (x y z : Int) (h : in64 y) : dotF x y z 0 4294967296 0 = y := by
  unfold dotF
  rw [mulO' y h, mulN', mulN']
  simp only [Int.add_zero, Int.zero_add, sat_id y h, sat_id 0 in64_0]
theorem dot_001 (x y z : Int) (h : in64 z) : dotF 0 0 4294967296 x y z = z := by
  unfold dotF
  rw [mulO z h, mulN, mulN]
  simp only [Int.add_zero, Int.zero_add, sat_id z h, sat_id 0 in64_0]
theorem dot_001' (x y z : Int) (h : in64 z) : dotF x y z 0 0 4294967296 = z := by
  unfold dotF
  rw [mulO' z h, mulN', mulN']
  simp only [Int.add_zero, Int.zero_add, sat_id z h, sat_id 0 in64_0]
theorem dot_000' (x y z : Int) : dotF x y z 0 0 0 = 0 := by
  unfold dotF
  rw [mulN', mulN', mulN']
  simp only [Int.add_zero, sat_id 0 in64_0]
theorem comp_same (a : Aff) (ha : inA a) : compF sameA a = a := by
  obtain ⟨h0, h1, h2, h3, h4, h5, h6, h7, h8, h9, h10, h11⟩ := ha
  simp only [compF, sameA, T0, T1, T2, A0, A1, A2]
  rw [dot_100' _ _ _ h0, dot_010' _ _ _ h1, dot_001' _ _ _ h2, dot_100' _ _ _ h3, dot_010' _ _ _ h4, dot_001' _ _ _ h5, dot_100' _ _ _ h6, dot_010' _ _ _ h7, dot_001' _ _ _ h8]
  rw [dot_000', dot_000', dot_000', Int.zero_add, Int.zero_add, Int.zero_add, sat_id _ h9, sat_id _ h10, sat_id _ h11]
theorem same_comp (a : Aff) (ha : inA a) : compF a sameA = a := by
  obtain ⟨h0, h1, h2, h3, h4, h5, h6, h7, h8, h9, h10, h11⟩ := ha
  simp only [compF, sameA, T0, T1, T2, A0, A1, A2]
  rw [dot_100 _ _ _ h0, dot_100 _ _ _ h1, dot_100 _ _ _ h2, dot_010 _ _ _ h3, dot_010 _ _ _ h4, dot_010 _ _ _ h5, dot_001 _ _ _ h6, dot_001 _ _ _ h7, dot_001 _ _ _ h8, dot_100 _ _ _ h9, dot_010 _ _ _ h10, dot_001 _ _ _ h11]
  rw [Int.add_zero, Int.add_zero, Int.add_zero, sat_id _ h9, sat_id _ h10, sat_id _ h11]
def moveA (x y z : Int) : Aff := ⟨4294967296, 0, 0, 0, 4294967296, 0, 0, 0, 4294967296, x, y, z⟩
theorem in_moveA (x y z : Int) (hx : in64 x) (hy : in64 y) (hz : in64 z) : inA (moveA x y z) :=
  ⟨by unfold moveA in64; simp, by unfold moveA in64; simp, by unfold moveA in64; simp, by unfold moveA in64; simp, by unfold moveA in64; simp, by unfold moveA in64; simp, by unfold moveA in64; simp, by unfold moveA in64; simp, by unfold moveA in64; simp, hx, hy, hz⟩
theorem T0_moveA (a b c x y z : Int) (h : in64 x) : T0 (moveA a b c) x y z = x := dot_100 x y z h
theorem T1_moveA (a b c x y z : Int) (h : in64 y) : T1 (moveA a b c) x y z = y := dot_010 x y z h
theorem T2_moveA (a b c x y z : Int) (h : in64 z) : T2 (moveA a b c) x y z = z := dot_001 x y z h
/-- a place of the grid, as a vector, rounded -/
theorem rnd_wh (p : Int) : (-65536 ≤ rnd (wh p) ↔ -65536 ≤ p) ∧ (rnd (wh p) ≤ 65536 ↔ p ≤ 65536) ∧ (-65536 ≤ p → p ≤ 65536 → rnd (wh p) = p) := by
  unfold rnd wh sat
  split <;> (try split) <;> omega
theorem place_same (px py pz : Int) : placeV sameA px py pz = snapV (rnd (wh px)) (rnd (wh py)) (rnd (wh pz)) := by
  have h : chkA sameA = 0 := by kernel_rfl
  rw [placeV, if_pos h]
  have e0 : A0 sameA (wh px) (wh py) (wh pz) = wh px := by
    show sat (dotF 4294967296 0 0 _ _ _ + 0) = _
    rw [dot_100 _ _ _ (wh_in _), Int.add_zero, sat_id _ (wh_in _)]
  have e1 : A1 sameA (wh px) (wh py) (wh pz) = wh py := by
    show sat (dotF 0 4294967296 0 _ _ _ + 0) = _
    rw [dot_010 _ _ _ (wh_in _), Int.add_zero, sat_id _ (wh_in _)]
  have e2 : A2 sameA (wh px) (wh py) (wh pz) = wh pz := by
    show sat (dotF 0 0 4294967296 _ _ _ + 0) = _
    rw [dot_001 _ _ _ (wh_in _), Int.add_zero, sat_id _ (wh_in _)]
  rw [placeX, placeY, placeZ, e0, e1, e2]
end Go.Proofs.Ytgggngcgcpmkbaa
