/- The document's sums and products of any vectors; of no vectors. -/
import Derived.Test.YtalclbngpimajaaVE
import Derived.LoopTactic
import Derived.Deep.RegionHeld3
namespace Go.Proofs.Ytalclbngpimajaa
set_option linter.unusedVariables false
set_option maxRecDepth 2000
set_option linter.unusedSimpArgs false
open Go.RowKit
attribute [local go_sem] setCell_twice setCell_pair

theorem RVTwo_any (x1 y1 z1 x2 y2 z2 : Int) (hx1 : in64 x1) (hy1 : in64 y1) (hz1 : in64 z1) (hx2 : in64 x2) (hy2 : in64 y2) (hz2 : in64 z2) (w : World) :
    Calls Try.prog 67 #[(.agg #[.int .i64 x1, .int .i64 y1, .int .i64 z1]), (.agg #[.int .i64 x2, .int .i64 y2, .int .i64 z2])] w fun e w' => e = .returned (.agg #[.int .i64 (sat (x1 + x2)), .int .i64 (sat (y1 + y2)), .int .i64 (sat (z1 + z2))]) ∧ Below w.heap.size w w' :=
  RVTwo_core x1 y1 z1 x2 y2 z2 _ _ _ w (fun w => Two_any x1 x2 hx1.1 hx1.2 hx2.1 hx2.2 w) (fun w => Two_any y1 y2 hy1.1 hy1.2 hy2.1 hy2.2 w) (fun w => Two_any z1 z2 hz1.1 hz1.2 hz2.1 hz2.2 w)

theorem RVBoth_any (x1 y1 z1 x2 y2 z2 : Int) (hx1 : in64 x1) (hy1 : in64 y1) (hz1 : in64 z1) (hx2 : in64 x2) (hy2 : in64 y2) (hz2 : in64 z2) (w : World) :
    Calls Try.prog 70 #[(.agg #[.int .i64 x1, .int .i64 y1, .int .i64 z1]), (.agg #[.int .i64 x2, .int .i64 y2, .int .i64 z2])] w fun e w' => e = .returned (.agg #[.int .i64 (mulF x1 x2), .int .i64 (mulF y1 y2), .int .i64 (mulF z1 z2)]) ∧ Below w.heap.size w w' :=
  RVBoth_core x1 y1 z1 x2 y2 z2 _ _ _ w (fun w => RTimes_any x1 x2 hx1.1 hx1.2 hx2.1 hx2.2 w) (fun w => RTimes_any y1 y2 hy1.1 hy1.2 hy2.1 hy2.2 w) (fun w => RTimes_any z1 z2 hz1.1 hz1.2 hz2.1 hz2.2 w)

theorem RVSub_any (x1 y1 z1 x2 y2 z2 : Int) (hx1 : in64 x1) (hy1 : in64 y1) (hz1 : in64 z1) (hx2 : in64 x2) (hy2 : in64 y2) (hz2 : in64 z2) (w : World) :
    Calls Try.prog 20 #[(.agg #[.int .i64 x1, .int .i64 y1, .int .i64 z1]), (.agg #[.int .i64 x2, .int .i64 y2, .int .i64 z2])] w fun e w' => e = .returned (.agg #[.int .i64 (sat (x1 - x2)), .int .i64 (sat (y1 - y2)), .int .i64 (sat (z1 - z2))]) ∧ Below w.heap.size w w' :=
  RVSub_core x1 y1 z1 x2 y2 z2 _ _ _ w (fun w => RSub_any x1 x2 hx1.1 hx1.2 hx2.1 hx2.2 w) (fun w => RSub_any y1 y2 hy1.1 hy1.2 hy2.1 hy2.2 w) (fun w => RSub_any z1 z2 hz1.1 hz1.2 hz2.1 hz2.2 w)

set_option maxHeartbeats 1000000 in
theorem RVAdd_walk (blk off n cap : Nat) (zs : List (Int × Int × Int)) (R : Int × Int × Int) (hN : n ≤ 4611686018427387904) (w : World) (hbk : blk < w.heap.size) (sl : VecSl w blk off n zs) (hR : zs.foldl sumV (0, 0, 0) = R) :
    Calls Try.prog 16 #[.slice (some ⟨blk, off, none⟩) n cap] w fun e w' => e = .returned (.agg #[.int .i64 R.1, .int .i64 R.2.1, .int .i64 R.2.2]) ∧ Below w.heap.size w w' := by
  have HR := Lib.hid hR; clear hR
  go_enter Try.func16, Try.ntmps16
  go_wp2
  go_loopw [4] (fun i wr => ∃ (k : Nat) (s : Int × Int × Int), k ≤ n ∧ i = .int .i64 k ∧ Hid ((zs.drop k).foldl sumV s = R) ∧ Hid (in3 s) ∧ Below w.heap.size w wr ∧ VecAt w.heap.size 0 0 0 wr ∧ VecAt (w.heap.size + 1) s.1 s.2.1 s.2.2 wr) (fun i _ => (n - (intOf i).toNat))
  case atStart => exact ⟨0, (0, 0, 0), by omega, rfl, HR.out, Lib.hid (by refine ⟨?_, ?_, ?_⟩ <;> (show in64 0; unfold in64; omega)), (by repeat (first | exact Below.refl _ _ | assumption | refine below_drewN ?_ _ | refine Below.drew ?_ | refine Below.alloc ?_ (by first | omega | (simp; done) | (simp; omega)) _ | refine Below.setCell ?_ (by first | (simp; done) | (simp; omega)) _)), ⟨by simp; omega, by simp [go_sem], by simp [go_sem], by simp [go_sem], by simp [go_sem], by simp [go_sem], by simp [go_sem]⟩, ⟨by simp, by simp [go_sem], by simp [go_sem], by simp [go_sem], by simp [go_sem], by simp [go_sem], by simp [go_sem]⟩⟩
  case round =>
    obtain ⟨k, s, hk, rfl, hs, hw, hB, v0, v1⟩ := hrel
    obtain ⟨s0, s1, s2⟩ := s
    by_cases hlt : k < n
    · obtain ⟨c0, c1, c2⟩ := sl.cell k hlt
      have hD : Below w.heap.size w wr.drew := hB.drew
      have hd : Below wr.heap.size wr wr.drew := (Below.refl _ _).drew
      rw [← hD.cell (p := ⟨blk, off + k * 3, none⟩) hbk] at c0
      rw [← hD.cell (p := ⟨blk, off + k * 3 + 1, none⟩) hbk] at c1
      rw [← hD.cell (p := ⟨blk, off + k * 3 + 2, none⟩) hbk] at c2
      have wz := sl.bd k hlt
      have st := foldV_step sumV (s0, s1, s2) zs k (by rw [sl.len]; exact hlt)
      rw [hs.out] at st
      generalize zs.getD k (0, 0, 0) = q at *
      obtain ⟨q0, q1, q2⟩ := q
      have nx := Lib.hid st.symm
      have pl := Lib.hid (fun w => RVTwo_any s0 s1 s2 q0 q1 q2 hw.out.1 hw.out.2.1 hw.out.2.2 wz.1 wz.2.1 wz.2.2 w)
      clear st hw wz hs
      have hV0 := Lib.hid (v0.below hd)
      have hV1 := Lib.hid (v1.below hd)
      obtain ⟨a0, a1, a2, a3, g0, g1, g2⟩ := v1.below hd
      clear v0 v1
      simp only at a1 a2 a3 c0 c1 c2
      have hlt' : (k : Int) < n := by omega
      have hk0 : (0 : Int) ≤ k := by omega
      have hne : w.heap.size + 1 ≠ blk := by omega
      have hne' : blk ≠ w.heap.size + 1 := by omega
      have i0 := hB.size
      go_wp2_with (fail)
      go_region_with (first | (go_at_call 67; (with_reducible refine (pl.out _).mono ?_); rintro e w1 ⟨rfl, hb⟩; have hW : Below wr.heap.size wr w1 := below_step (by repeat (first | exact Below.refl _ _ | assumption | refine below_drewN ?_ _ | refine Below.drew ?_ | refine Below.alloc ?_ (by first | omega | (simp; done) | (simp; omega)) _ | refine Below.setCell ?_ (by first | (simp; done) | (simp; omega)) _)) hb; have hBW : Below w.heap.size w w1 := below_step hB hW; have c0 := hBW.cell (p := ⟨blk, off + k * 3, none⟩) hbk; have c1 := hBW.cell (p := ⟨blk, off + k * 3 + 1, none⟩) hbk; have c2 := hBW.cell (p := ⟨blk, off + k * 3 + 2, none⟩) hbk; rw [← hD.cell (p := ⟨blk, off + k * 3, none⟩) hbk] at c0; rw [← hD.cell (p := ⟨blk, off + k * 3 + 1, none⟩) hbk] at c1; rw [← hD.cell (p := ⟨blk, off + k * 3 + 2, none⟩) hbk] at c2; simp only [*] at c0 c1 c2; have hV0' := Lib.hid (hV0.out.below hb); have hV1' := Lib.hid (hV1.out.below hb); obtain ⟨a0, a1, a2, a3, g0, g1, g2⟩ := hV1'.out))
      all_goals
        clear hV0 hV1 hb pl hW hB
        go_wp2
        go_roundw
        case rel => exact ⟨k + 1, sumV (s0, s1, s2) (q0, q1, q2), by omega, by go_num, nx, Lib.hid (in3_sumV _ _), (by repeat (first | exact Below.refl _ _ | assumption | refine below_drewN ?_ _ | refine Below.drew ?_ | refine Below.alloc ?_ (by first | omega | (simp; done) | (simp; omega)) _ | refine Below.setCell ?_ (by first | (simp; done) | (simp; omega)) _)), ((hV0'.out.far (by omega)).far (by omega)).far (by omega), hV1'.out.set _ _ _⟩
        case measure => simp [intOf]; omega
    · obtain rfl : k = n := by omega
      have he := hs.out
      rw [List.drop_eq_nil_of_le (by rw [sl.len]; exact Nat.le_refl _)] at he
      obtain rfl : (s0, s1, s2) = R := he
      obtain ⟨a0, a1, a2, a3, g0, g1, g2⟩ := v1
      obtain ⟨b0, b1, b2, b3, e0, e1, e2⟩ := v0
      clear hs hw HR
      simp only at a1 a2 a3
      go_wp2
      exact bodyPost_ret (v := (.agg #[.int .i64 s0, .int .i64 s1, .int .i64 s2])) (by simp [results, Try.results16, go_sem, b0, b1, b2, b3]) rfl ⟨rfl, (by repeat (first | exact Below.refl _ _ | assumption | refine below_drewN ?_ _ | refine Below.drew ?_ | refine Below.alloc ?_ (by first | omega | (simp; done) | (simp; omega)) _ | refine Below.setCell ?_ (by first | (simp; done) | (simp; omega)) _))⟩

set_option maxHeartbeats 1000000 in
theorem RVTimes_walk (blk off n cap : Nat) (zs : List (Int × Int × Int)) (R : Int × Int × Int) (hN : n ≤ 4611686018427387904) (w : World) (hbk : blk < w.heap.size) (sl : VecSl w blk off n zs) (hR : zs.foldl proV (4294967296, 4294967296, 4294967296) = R) :
    Calls Try.prog 18 #[.slice (some ⟨blk, off, none⟩) n cap] w fun e w' => e = .returned (.agg #[.int .i64 R.1, .int .i64 R.2.1, .int .i64 R.2.2]) ∧ Below w.heap.size w w' := by
  have HR := Lib.hid hR; clear hR
  go_enter Try.func18, Try.ntmps18
  go_wp2
  go_loopw [4] (fun i wr => ∃ (k : Nat) (s : Int × Int × Int), k ≤ n ∧ i = .int .i64 k ∧ Hid ((zs.drop k).foldl proV s = R) ∧ Hid (in3 s) ∧ Below w.heap.size w wr ∧ VecAt w.heap.size 0 0 0 wr ∧ VecAt (w.heap.size + 1) s.1 s.2.1 s.2.2 wr) (fun i _ => (n - (intOf i).toNat))
  case atStart => exact ⟨0, (4294967296, 4294967296, 4294967296), by omega, rfl, HR.out, Lib.hid (by refine ⟨?_, ?_, ?_⟩ <;> (show in64 4294967296; unfold in64; omega)), (by repeat (first | exact Below.refl _ _ | assumption | refine below_drewN ?_ _ | refine Below.drew ?_ | refine Below.alloc ?_ (by first | omega | (simp; done) | (simp; omega)) _ | refine Below.setCell ?_ (by first | (simp; done) | (simp; omega)) _)), ⟨by simp; omega, by simp [go_sem], by simp [go_sem], by simp [go_sem], by simp [go_sem], by simp [go_sem], by simp [go_sem]⟩, ⟨by simp, by simp [go_sem], by simp [go_sem], by simp [go_sem], by simp [go_sem], by simp [go_sem], by simp [go_sem]⟩⟩
  case round =>
    obtain ⟨k, s, hk, rfl, hs, hw, hB, v0, v1⟩ := hrel
    obtain ⟨s0, s1, s2⟩ := s
    by_cases hlt : k < n
    · obtain ⟨c0, c1, c2⟩ := sl.cell k hlt
      have hD : Below w.heap.size w wr.drew := hB.drew
      have hd : Below wr.heap.size wr wr.drew := (Below.refl _ _).drew
      rw [← hD.cell (p := ⟨blk, off + k * 3, none⟩) hbk] at c0
      rw [← hD.cell (p := ⟨blk, off + k * 3 + 1, none⟩) hbk] at c1
      rw [← hD.cell (p := ⟨blk, off + k * 3 + 2, none⟩) hbk] at c2
      have wz := sl.bd k hlt
      have st := foldV_step proV (s0, s1, s2) zs k (by rw [sl.len]; exact hlt)
      rw [hs.out] at st
      generalize zs.getD k (0, 0, 0) = q at *
      obtain ⟨q0, q1, q2⟩ := q
      have nx := Lib.hid st.symm
      have pl := Lib.hid (fun w => RVBoth_any s0 s1 s2 q0 q1 q2 hw.out.1 hw.out.2.1 hw.out.2.2 wz.1 wz.2.1 wz.2.2 w)
      clear st hw wz hs
      have hV0 := Lib.hid (v0.below hd)
      have hV1 := Lib.hid (v1.below hd)
      obtain ⟨a0, a1, a2, a3, g0, g1, g2⟩ := v1.below hd
      clear v0 v1
      simp only at a1 a2 a3 c0 c1 c2
      have hlt' : (k : Int) < n := by omega
      have hk0 : (0 : Int) ≤ k := by omega
      have hne : w.heap.size + 1 ≠ blk := by omega
      have hne' : blk ≠ w.heap.size + 1 := by omega
      have i0 := hB.size
      go_wp2_with (fail)
      go_region_with (first | (go_at_call 70; (with_reducible refine (pl.out _).mono ?_); rintro e w1 ⟨rfl, hb⟩; have hW : Below wr.heap.size wr w1 := below_step (by repeat (first | exact Below.refl _ _ | assumption | refine below_drewN ?_ _ | refine Below.drew ?_ | refine Below.alloc ?_ (by first | omega | (simp; done) | (simp; omega)) _ | refine Below.setCell ?_ (by first | (simp; done) | (simp; omega)) _)) hb; have hBW : Below w.heap.size w w1 := below_step hB hW; have c0 := hBW.cell (p := ⟨blk, off + k * 3, none⟩) hbk; have c1 := hBW.cell (p := ⟨blk, off + k * 3 + 1, none⟩) hbk; have c2 := hBW.cell (p := ⟨blk, off + k * 3 + 2, none⟩) hbk; rw [← hD.cell (p := ⟨blk, off + k * 3, none⟩) hbk] at c0; rw [← hD.cell (p := ⟨blk, off + k * 3 + 1, none⟩) hbk] at c1; rw [← hD.cell (p := ⟨blk, off + k * 3 + 2, none⟩) hbk] at c2; simp only [*] at c0 c1 c2; have hV0' := Lib.hid (hV0.out.below hb); have hV1' := Lib.hid (hV1.out.below hb); obtain ⟨a0, a1, a2, a3, g0, g1, g2⟩ := hV1'.out))
      all_goals
        clear hV0 hV1 hb pl hW hB
        go_wp2
        go_roundw
        case rel => exact ⟨k + 1, proV (s0, s1, s2) (q0, q1, q2), by omega, by go_num, nx, Lib.hid (in3_proV _ _), (by repeat (first | exact Below.refl _ _ | assumption | refine below_drewN ?_ _ | refine Below.drew ?_ | refine Below.alloc ?_ (by first | omega | (simp; done) | (simp; omega)) _ | refine Below.setCell ?_ (by first | (simp; done) | (simp; omega)) _)), ((hV0'.out.far (by omega)).far (by omega)).far (by omega), hV1'.out.set _ _ _⟩
        case measure => simp [intOf]; omega
    · obtain rfl : k = n := by omega
      have he := hs.out
      rw [List.drop_eq_nil_of_le (by rw [sl.len]; exact Nat.le_refl _)] at he
      obtain rfl : (s0, s1, s2) = R := he
      obtain ⟨a0, a1, a2, a3, g0, g1, g2⟩ := v1
      obtain ⟨b0, b1, b2, b3, e0, e1, e2⟩ := v0
      clear hs hw HR
      simp only at a1 a2 a3
      go_wp2
      exact bodyPost_ret (v := (.agg #[.int .i64 s0, .int .i64 s1, .int .i64 s2])) (by simp [results, Try.results18, go_sem, b0, b1, b2, b3]) rfl ⟨rfl, (by repeat (first | exact Below.refl _ _ | assumption | refine below_drewN ?_ _ | refine Below.drew ?_ | refine Below.alloc ?_ (by first | omega | (simp; done) | (simp; omega)) _ | refine Below.setCell ?_ (by first | (simp; done) | (simp; omega)) _))⟩

theorem VAdd_nil (p : Option Addr) (cap : Nat) (w : World) :
    Calls Try.prog 15 #[.slice p 0 cap] w fun e w' => e = .returned (.agg #[.int .i64 0, .int .i64 0, .int .i64 0]) ∧ Below w.heap.size w w' := by
  go_enter Try.func15, Try.ntmps15
  go_wp2
  go_loopw [8] (fun i wr => i = .int .i64 0 ∧ Below w.heap.size w wr ∧ VecAt w.heap.size 0 0 0 wr ∧ VecAt (w.heap.size + 1) 0 0 0 wr) (fun _ _ => 0)
  case atStart => exact ⟨rfl, (by repeat (first | exact Below.refl _ _ | assumption | refine below_drewN ?_ _ | refine Below.drew ?_ | refine Below.alloc ?_ (by first | omega | (simp; done) | (simp; omega)) _ | refine Below.setCell ?_ (by first | (simp; done) | (simp; omega)) _)), ⟨by simp; omega, by simp [go_sem], by simp [go_sem], by simp [go_sem], by simp [go_sem], by simp [go_sem], by simp [go_sem]⟩, ⟨by simp, by simp [go_sem], by simp [go_sem], by simp [go_sem], by simp [go_sem], by simp [go_sem], by simp [go_sem]⟩⟩
  case round =>
    obtain ⟨rfl, hB, v0, v1⟩ := hrel
    obtain ⟨a0, a1, a2, a3, g0, g1, g2⟩ := v1
    obtain ⟨b0, b1, b2, b3, e0, e1, e2⟩ := v0
    go_wp2
    exact bodyPost_ret (v := (.agg #[.int .i64 0, .int .i64 0, .int .i64 0])) (by simp [results, Try.results15, go_sem, b0, b1, b2, b3]) rfl ⟨rfl, (by repeat (first | exact Below.refl _ _ | assumption | refine below_drewN ?_ _ | refine Below.drew ?_ | refine Below.alloc ?_ (by first | omega | (simp; done) | (simp; omega)) _ | refine Below.setCell ?_ (by first | (simp; done) | (simp; omega)) _))⟩

theorem VTimes_nil (p : Option Addr) (cap : Nat) (w : World) :
    Calls Try.prog 17 #[.slice p 0 cap] w fun e w' => e = .returned (.agg #[.int .i64 4294967296, .int .i64 4294967296, .int .i64 4294967296]) ∧ Below w.heap.size w w' := by
  go_enter Try.func17, Try.ntmps17
  go_wp2
  go_loopw [9] (fun i wr => i = .int .i64 0 ∧ Below w.heap.size w wr ∧ VecAt w.heap.size 0 0 0 wr ∧ VecAt (w.heap.size + 1) 4294967296 4294967296 4294967296 wr) (fun _ _ => 0)
  case atStart => exact ⟨rfl, (by repeat (first | exact Below.refl _ _ | assumption | refine below_drewN ?_ _ | refine Below.drew ?_ | refine Below.alloc ?_ (by first | omega | (simp; done) | (simp; omega)) _ | refine Below.setCell ?_ (by first | (simp; done) | (simp; omega)) _)), ⟨by simp; omega, by simp [go_sem], by simp [go_sem], by simp [go_sem], by simp [go_sem], by simp [go_sem], by simp [go_sem]⟩, ⟨by simp, by simp [go_sem], by simp [go_sem], by simp [go_sem], by simp [go_sem], by simp [go_sem], by simp [go_sem]⟩⟩
  case round =>
    obtain ⟨rfl, hB, v0, v1⟩ := hrel
    obtain ⟨a0, a1, a2, a3, g0, g1, g2⟩ := v1
    obtain ⟨b0, b1, b2, b3, e0, e1, e2⟩ := v0
    go_wp2
    exact bodyPost_ret (v := (.agg #[.int .i64 4294967296, .int .i64 4294967296, .int .i64 4294967296])) (by simp [results, Try.results17, go_sem, b0, b1, b2, b3]) rfl ⟨rfl, (by repeat (first | exact Below.refl _ _ | assumption | refine below_drewN ?_ _ | refine Below.drew ?_ | refine Below.alloc ?_ (by first | omega | (simp; done) | (simp; omega)) _ | refine Below.setCell ?_ (by first | (simp; done) | (simp; omega)) _))⟩

theorem RVAdd_nil (p : Option Addr) (cap : Nat) (w : World) :
    Calls Try.prog 16 #[.slice p 0 cap] w fun e w' => e = .returned (.agg #[.int .i64 0, .int .i64 0, .int .i64 0]) ∧ Below w.heap.size w w' := by
  go_enter Try.func16, Try.ntmps16
  go_wp2
  go_loopw [4] (fun i wr => i = .int .i64 0 ∧ Below w.heap.size w wr ∧ VecAt w.heap.size 0 0 0 wr ∧ VecAt (w.heap.size + 1) 0 0 0 wr) (fun _ _ => 0)
  case atStart => exact ⟨rfl, (by repeat (first | exact Below.refl _ _ | assumption | refine below_drewN ?_ _ | refine Below.drew ?_ | refine Below.alloc ?_ (by first | omega | (simp; done) | (simp; omega)) _ | refine Below.setCell ?_ (by first | (simp; done) | (simp; omega)) _)), ⟨by simp; omega, by simp [go_sem], by simp [go_sem], by simp [go_sem], by simp [go_sem], by simp [go_sem], by simp [go_sem]⟩, ⟨by simp, by simp [go_sem], by simp [go_sem], by simp [go_sem], by simp [go_sem], by simp [go_sem], by simp [go_sem]⟩⟩
  case round =>
    obtain ⟨rfl, hB, v0, v1⟩ := hrel
    obtain ⟨a0, a1, a2, a3, g0, g1, g2⟩ := v1
    obtain ⟨b0, b1, b2, b3, e0, e1, e2⟩ := v0
    go_wp2
    exact bodyPost_ret (v := (.agg #[.int .i64 0, .int .i64 0, .int .i64 0])) (by simp [results, Try.results16, go_sem, b0, b1, b2, b3]) rfl ⟨rfl, (by repeat (first | exact Below.refl _ _ | assumption | refine below_drewN ?_ _ | refine Below.drew ?_ | refine Below.alloc ?_ (by first | omega | (simp; done) | (simp; omega)) _ | refine Below.setCell ?_ (by first | (simp; done) | (simp; omega)) _))⟩

theorem RVTimes_nil (p : Option Addr) (cap : Nat) (w : World) :
    Calls Try.prog 18 #[.slice p 0 cap] w fun e w' => e = .returned (.agg #[.int .i64 4294967296, .int .i64 4294967296, .int .i64 4294967296]) ∧ Below w.heap.size w w' := by
  go_enter Try.func18, Try.ntmps18
  go_wp2
  go_loopw [4] (fun i wr => i = .int .i64 0 ∧ Below w.heap.size w wr ∧ VecAt w.heap.size 0 0 0 wr ∧ VecAt (w.heap.size + 1) 4294967296 4294967296 4294967296 wr) (fun _ _ => 0)
  case atStart => exact ⟨rfl, (by repeat (first | exact Below.refl _ _ | assumption | refine below_drewN ?_ _ | refine Below.drew ?_ | refine Below.alloc ?_ (by first | omega | (simp; done) | (simp; omega)) _ | refine Below.setCell ?_ (by first | (simp; done) | (simp; omega)) _)), ⟨by simp; omega, by simp [go_sem], by simp [go_sem], by simp [go_sem], by simp [go_sem], by simp [go_sem], by simp [go_sem]⟩, ⟨by simp, by simp [go_sem], by simp [go_sem], by simp [go_sem], by simp [go_sem], by simp [go_sem], by simp [go_sem]⟩⟩
  case round =>
    obtain ⟨rfl, hB, v0, v1⟩ := hrel
    obtain ⟨a0, a1, a2, a3, g0, g1, g2⟩ := v1
    obtain ⟨b0, b1, b2, b3, e0, e1, e2⟩ := v0
    go_wp2
    exact bodyPost_ret (v := (.agg #[.int .i64 4294967296, .int .i64 4294967296, .int .i64 4294967296])) (by simp [results, Try.results18, go_sem, b0, b1, b2, b3]) rfl ⟨rfl, (by repeat (first | exact Below.refl _ _ | assumption | refine below_drewN ?_ _ | refine Below.drew ?_ | refine Below.alloc ?_ (by first | omega | (simp; done) | (simp; omega)) _ | refine Below.setCell ?_ (by first | (simp; done) | (simp; omega)) _))⟩
end Go.Proofs.Ytalclbngpimajaa
