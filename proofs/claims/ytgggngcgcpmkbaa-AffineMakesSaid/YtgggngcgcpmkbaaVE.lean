/- Package vec, and the document's: sums and products of any vectors. -/
import Derived.Test.YtgggngcgcpmkbaaVD
import Derived.LoopTactic
namespace Go.Proofs.Ytgggngcgcpmkbaa
set_option linter.unusedVariables false
set_option maxRecDepth 2000
set_option linter.unusedSimpArgs false
open Go.RowKit
attribute [local go_sem] setCell_twice setCell_pair

/-- a block of three cells that hold a vector, and may be written -/
structure VecAt (b : Nat) (x y z : Int) (W : World) : Prop where
  lt : b < W.heap.size
  c0 : W.cell? ⟨b, 0, none⟩ = some (.int .i64 x)
  c1 : W.cell? ⟨b, 1, none⟩ = some (.int .i64 y)
  c2 : W.cell? ⟨b, 2, none⟩ = some (.int .i64 z)
  f0 : W.frozen? ⟨b, 0, none⟩ = false
  f1 : W.frozen? ⟨b, 1, none⟩ = false
  f2 : W.frozen? ⟨b, 2, none⟩ = false
theorem VecAt.below {b : Nat} {x y z : Int} {W W' : World} (h : VecAt b x y z W) (hb : Below W.heap.size W W') : VecAt b x y z W' where
  lt := Nat.lt_of_lt_of_le h.lt hb.size
  c0 := by rw [hb.cell (p := ⟨b, 0, none⟩) h.lt]; exact h.c0
  c1 := by rw [hb.cell (p := ⟨b, 1, none⟩) h.lt]; exact h.c1
  c2 := by rw [hb.cell (p := ⟨b, 2, none⟩) h.lt]; exact h.c2
  f0 := by rw [hb.frozen (p := ⟨b, 0, none⟩) h.lt]; exact h.f0
  f1 := by rw [hb.frozen (p := ⟨b, 1, none⟩) h.lt]; exact h.f1
  f2 := by rw [hb.frozen (p := ⟨b, 2, none⟩) h.lt]; exact h.f2
theorem VecAt.far {b c i : Nat} {x y z : Int} {W : World} {v : Value} (h : VecAt b x y z W) (hn : c ≠ b) : VecAt b x y z (W.setCell ⟨c, i, none⟩ v) where
  lt := by simpa using h.lt
  c0 := by simpa [go_sem, hn] using h.c0
  c1 := by simpa [go_sem, hn] using h.c1
  c2 := by simpa [go_sem, hn] using h.c2
  f0 := by simpa [go_sem, hn] using h.f0
  f1 := by simpa [go_sem, hn] using h.f1
  f2 := by simpa [go_sem, hn] using h.f2
theorem VecAt.set {b : Nat} {x y z : Int} {W : World} (h : VecAt b x y z W) (X Y Z : Int) :
    VecAt b X Y Z (((W.setCell ⟨b, 0, none⟩ (.int .i64 X)).setCell ⟨b, 1, none⟩ (.int .i64 Y)).setCell ⟨b, 2, none⟩ (.int .i64 Z)) where
  lt := by simpa using h.lt
  c0 := by simp [go_sem, h.c0, h.c1, h.c2, h.f0, h.f1, h.f2]
  c1 := by simp [go_sem, h.c0, h.c1, h.c2, h.f0, h.f1, h.f2]
  c2 := by simp [go_sem, h.c0, h.c1, h.c2, h.f0, h.f1, h.f2]
  f0 := by simp [go_sem, h.c0, h.c1, h.c2, h.f0, h.f1, h.f2]
  f1 := by simp [go_sem, h.c0, h.c1, h.c2, h.f0, h.f1, h.f2]
  f2 := by simp [go_sem, h.c0, h.c1, h.c2, h.f0, h.f1, h.f2]

def in3 (s : Int × Int × Int) : Prop := in64 s.1 ∧ in64 s.2.1 ∧ in64 s.2.2
def sumV (s x : Int × Int × Int) : Int × Int × Int := (sat (s.1 + x.1), sat (s.2.1 + x.2.1), sat (s.2.2 + x.2.2))
def proV (s x : Int × Int × Int) : Int × Int × Int := (mulF s.1 x.1, mulF s.2.1 x.2.1, mulF s.2.2 x.2.2)
def difV (s x : Int × Int × Int) : Int × Int × Int := (sat (s.1 - x.1), sat (s.2.1 - x.2.1), sat (s.2.2 - x.2.2))
theorem in3_sumV (s x : Int × Int × Int) : in3 (sumV s x) := ⟨in64_sat _, in64_sat _, in64_sat _⟩
theorem in3_proV (s x : Int × Int × Int) : in3 (proV s x) := ⟨in64_sat _, in64_sat _, in64_sat _⟩
theorem foldV_step (f : Int × Int × Int → Int × Int × Int → Int × Int × Int) (s : Int × Int × Int) (zs : List (Int × Int × Int)) (k : Nat) (h : k < zs.length) : (zs.drop k).foldl f s = (zs.drop (k + 1)).foldl f (f s (zs.getD k (0, 0, 0))) := by
  rw [List.drop_eq_getElem_cons h, List.foldl_cons]
  have e : zs.getD k (0, 0, 0) = zs[k] := by simp [h]
  rw [e]

/-- a slice of vectors reads as whole numbers -/
structure VecSl (w : World) (blk off n : Nat) (zs : List (Int × Int × Int)) : Prop where
  len : zs.length = n
  bd : ∀ k, k < n → in3 (zs.getD k (0, 0, 0))
  cell : ∀ k, k < n → w.cell? ⟨blk, off + k * 3, none⟩ = some (.int .i64 (zs.getD k (0, 0, 0)).1) ∧ w.cell? ⟨blk, off + k * 3 + 1, none⟩ = some (.int .i64 (zs.getD k (0, 0, 0)).2.1) ∧ w.cell? ⟨blk, off + k * 3 + 2, none⟩ = some (.int .i64 (zs.getD k (0, 0, 0)).2.2)

set_option maxHeartbeats 1000000 in
theorem VAdd_walk (blk off n cap : Nat) (zs : List (Int × Int × Int)) (R : Int × Int × Int) (hN : n ≤ 4611686018427387904) (w : World) (hbk : blk < w.heap.size) (sl : VecSl w blk off n zs) (hR : zs.foldl sumV (0, 0, 0) = R) :
    Calls Try.prog 113 #[.slice (some ⟨blk, off, none⟩) n cap] w fun e w' => e = .returned (.agg #[.int .i64 R.1, .int .i64 R.2.1, .int .i64 R.2.2]) ∧ Below w.heap.size w w' := by
  have HR := Lib.hid hR; clear hR
  go_enter Try.func113, Try.ntmps113
  go_wp2
  go_loopw [8] (fun i wr => ∃ (k : Nat) (s : Int × Int × Int), k ≤ n ∧ i = .int .i64 k ∧ Hid ((zs.drop k).foldl sumV s = R) ∧ Hid (in3 s) ∧ Below w.heap.size w wr ∧ VecAt w.heap.size 0 0 0 wr ∧ VecAt (w.heap.size + 1) s.1 s.2.1 s.2.2 wr) (fun i _ => (n - (intOf i).toNat))
  case atStart => exact ⟨0, (0, 0, 0), by omega, rfl, HR.out, Lib.hid (by refine ⟨?_, ?_, ?_⟩ <;> (show in64 0; unfold in64; omega)), (by repeat (first | exact Below.refl _ _ | assumption | refine below_drewN ?_ _ | refine Below.drew ?_ | refine Below.alloc ?_ (by first | omega | (simp; done) | (simp; omega)) _ | refine Below.setCell ?_ (by first | (simp; done) | (simp; omega)) _)), ⟨by simp; omega, by simp [go_sem], by simp [go_sem], by simp [go_sem], by simp [go_sem], by simp [go_sem], by simp [go_sem]⟩, ⟨by simp, by simp [go_sem], by simp [go_sem], by simp [go_sem], by simp [go_sem], by simp [go_sem], by simp [go_sem]⟩⟩
  case round =>
    obtain ⟨k, s, hk, rfl, hs, hw, hB, v0, v1⟩ := hrel
    obtain ⟨s0, s1, s2⟩ := s
    by_cases hlt : k < n
    · obtain ⟨c0, c1, c2⟩ := sl.cell k hlt
      rw [← hB.cell (p := ⟨blk, off + k * 3, none⟩) hbk] at c0
      rw [← hB.cell (p := ⟨blk, off + k * 3 + 1, none⟩) hbk] at c1
      rw [← hB.cell (p := ⟨blk, off + k * 3 + 2, none⟩) hbk] at c2
      have wz := sl.bd k hlt
      have st := foldV_step sumV (s0, s1, s2) zs k (by rw [sl.len]; exact hlt)
      rw [hs.out] at st
      generalize zs.getD k (0, 0, 0) = q at *
      obtain ⟨q0, q1, q2⟩ := q
      have nx := Lib.hid st.symm
      have pl := Lib.hid (fun w => pairAdd_any s0 s1 s2 q0 q1 q2 hw.out.1 hw.out.2.1 hw.out.2.2 wz.1 wz.2.1 wz.2.2 w)
      clear st hw wz hs
      have hV0 := Lib.hid v0
      have hV1 := Lib.hid v1
      obtain ⟨a0, a1, a2, a3, g0, g1, g2⟩ := v1
      clear v0
      simp only at a1 a2 a3 c0 c1 c2
      go_wp2_with (fail); go_at_call 121; refine (pl.out _).mono ?_; rintro e w1 ⟨rfl, hb⟩
      have hW : Below wr.heap.size wr w1 := below_step (by refine Below.alloc ?_ ?_ _; exact Below.refl _ _; exact Nat.le_refl _) hb
      have hBW : Below w.heap.size w w1 := below_step hB hW
      have hV0' := Lib.hid (hV0.out.below hW)
      have hV1' := Lib.hid (hV1.out.below hW)
      clear hV0 hV1 a0 a1 a2 a3 g0 g1 g2 c0 c1 c2 hb pl hW hB
      obtain ⟨a0, a1, a2, a3, g0, g1, g2⟩ := hV1'.out
      go_wp2
      go_roundw
      case rel => exact ⟨k + 1, sumV (s0, s1, s2) (q0, q1, q2), by omega, by go_num, nx, Lib.hid (in3_sumV _ _), (by repeat (first | exact Below.refl _ _ | assumption | refine below_drewN ?_ _ | refine Below.drew ?_ | refine Below.alloc ?_ (by first | omega | (simp; done) | (simp; omega)) _ | refine Below.setCell ?_ (by first | (simp; done) | (simp; omega)) _)), ((hV0'.out.far (by omega)).far (by omega)).far (by omega), hV1'.out.set _ _ _⟩
      case measure => simp [intOf]; omega
    · obtain rfl : k = n := by omega
      have he := hs.out
      rw [List.drop_eq_nil_of_le (by rw [sl.len]; exact Nat.le_refl _)] at he
      obtain rfl : (s0, s1, s2) = R := he
      obtain ⟨a0, a1, a2, a3, g0, g1, g2⟩ := v1
      obtain ⟨b0, b1, b2, b3, e0, e1, e2⟩ := v0
      clear hs hw HR
      simp only at a1 a2 a3
      go_wp2
      exact bodyPost_ret (v := (.agg #[.int .i64 s0, .int .i64 s1, .int .i64 s2])) (by simp [results, Try.results113, go_sem, b0, b1, b2, b3]) rfl ⟨rfl, (by repeat (first | exact Below.refl _ _ | assumption | refine below_drewN ?_ _ | refine Below.drew ?_ | refine Below.alloc ?_ (by first | omega | (simp; done) | (simp; omega)) _ | refine Below.setCell ?_ (by first | (simp; done) | (simp; omega)) _))⟩

set_option maxHeartbeats 1000000 in
theorem VTimes_walk (blk off n cap : Nat) (zs : List (Int × Int × Int)) (R : Int × Int × Int) (hN : n ≤ 4611686018427387904) (w : World) (hbk : blk < w.heap.size) (sl : VecSl w blk off n zs) (hR : zs.foldl proV (4294967296, 4294967296, 4294967296) = R) :
    Calls Try.prog 126 #[.slice (some ⟨blk, off, none⟩) n cap] w fun e w' => e = .returned (.agg #[.int .i64 R.1, .int .i64 R.2.1, .int .i64 R.2.2]) ∧ Below w.heap.size w w' := by
  have HR := Lib.hid hR; clear hR
  go_enter Try.func126, Try.ntmps126
  go_wp2
  go_loopw [9] (fun i wr => ∃ (k : Nat) (s : Int × Int × Int), k ≤ n ∧ i = .int .i64 k ∧ Hid ((zs.drop k).foldl proV s = R) ∧ Hid (in3 s) ∧ Below w.heap.size w wr ∧ VecAt w.heap.size 0 0 0 wr ∧ VecAt (w.heap.size + 1) s.1 s.2.1 s.2.2 wr) (fun i _ => (n - (intOf i).toNat))
  case atStart => exact ⟨0, (4294967296, 4294967296, 4294967296), by omega, rfl, HR.out, Lib.hid (by refine ⟨?_, ?_, ?_⟩ <;> (show in64 4294967296; unfold in64; omega)), (by repeat (first | exact Below.refl _ _ | assumption | refine below_drewN ?_ _ | refine Below.drew ?_ | refine Below.alloc ?_ (by first | omega | (simp; done) | (simp; omega)) _ | refine Below.setCell ?_ (by first | (simp; done) | (simp; omega)) _)), ⟨by simp; omega, by simp [go_sem], by simp [go_sem], by simp [go_sem], by simp [go_sem], by simp [go_sem], by simp [go_sem]⟩, ⟨by simp, by simp [go_sem], by simp [go_sem], by simp [go_sem], by simp [go_sem], by simp [go_sem], by simp [go_sem]⟩⟩
  case round =>
    obtain ⟨k, s, hk, rfl, hs, hw, hB, v0, v1⟩ := hrel
    obtain ⟨s0, s1, s2⟩ := s
    by_cases hlt : k < n
    · obtain ⟨c0, c1, c2⟩ := sl.cell k hlt
      rw [← hB.cell (p := ⟨blk, off + k * 3, none⟩) hbk] at c0
      rw [← hB.cell (p := ⟨blk, off + k * 3 + 1, none⟩) hbk] at c1
      rw [← hB.cell (p := ⟨blk, off + k * 3 + 2, none⟩) hbk] at c2
      have wz := sl.bd k hlt
      have st := foldV_step proV (s0, s1, s2) zs k (by rw [sl.len]; exact hlt)
      rw [hs.out] at st
      generalize zs.getD k (0, 0, 0) = q at *
      obtain ⟨q0, q1, q2⟩ := q
      have nx := Lib.hid st.symm
      have pl := Lib.hid (fun w => pairTimes_any s0 s1 s2 q0 q1 q2 hw.out.1 hw.out.2.1 hw.out.2.2 wz.1 wz.2.1 wz.2.2 w)
      clear st hw wz hs
      have hV0 := Lib.hid v0
      have hV1 := Lib.hid v1
      obtain ⟨a0, a1, a2, a3, g0, g1, g2⟩ := v1
      clear v0
      simp only at a1 a2 a3 c0 c1 c2
      go_wp2_with (fail); go_at_call 121; refine (pl.out _).mono ?_; rintro e w1 ⟨rfl, hb⟩
      have hW : Below wr.heap.size wr w1 := below_step (by refine Below.alloc ?_ ?_ _; exact Below.refl _ _; exact Nat.le_refl _) hb
      have hBW : Below w.heap.size w w1 := below_step hB hW
      have hV0' := Lib.hid (hV0.out.below hW)
      have hV1' := Lib.hid (hV1.out.below hW)
      clear hV0 hV1 a0 a1 a2 a3 g0 g1 g2 c0 c1 c2 hb pl hW hB
      obtain ⟨a0, a1, a2, a3, g0, g1, g2⟩ := hV1'.out
      go_wp2
      go_roundw
      case rel => exact ⟨k + 1, proV (s0, s1, s2) (q0, q1, q2), by omega, by go_num, nx, Lib.hid (in3_proV _ _), (by repeat (first | exact Below.refl _ _ | assumption | refine below_drewN ?_ _ | refine Below.drew ?_ | refine Below.alloc ?_ (by first | omega | (simp; done) | (simp; omega)) _ | refine Below.setCell ?_ (by first | (simp; done) | (simp; omega)) _)), ((hV0'.out.far (by omega)).far (by omega)).far (by omega), hV1'.out.set _ _ _⟩
      case measure => simp [intOf]; omega
    · obtain rfl : k = n := by omega
      have he := hs.out
      rw [List.drop_eq_nil_of_le (by rw [sl.len]; exact Nat.le_refl _)] at he
      obtain rfl : (s0, s1, s2) = R := he
      obtain ⟨a0, a1, a2, a3, g0, g1, g2⟩ := v1
      obtain ⟨b0, b1, b2, b3, e0, e1, e2⟩ := v0
      clear hs hw HR
      simp only at a1 a2 a3
      go_wp2
      exact bodyPost_ret (v := (.agg #[.int .i64 s0, .int .i64 s1, .int .i64 s2])) (by simp [results, Try.results126, go_sem, b0, b1, b2, b3]) rfl ⟨rfl, (by repeat (first | exact Below.refl _ _ | assumption | refine below_drewN ?_ _ | refine Below.drew ?_ | refine Below.alloc ?_ (by first | omega | (simp; done) | (simp; omega)) _ | refine Below.setCell ?_ (by first | (simp; done) | (simp; omega)) _))⟩
end Go.Proofs.Ytgggngcgcpmkbaa
