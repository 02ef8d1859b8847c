/- affine.Place of any place; the law's example. -/
import Derived.Test.YtgggngcgcpmkbaaAG
import Derived.Test.YtgggngcgcpmkbaaAH
import Derived.Test.YtgggngcgcpmkbaaAL
import Derived.Test.YtgggngcgcpmkbaaAA
import Derived.Test.YtgggngcgcpmkbaaAK
import Derived.Test.YtgggngcgcpmkbaaVN
namespace Go.Proofs.Ytgggngcgcpmkbaa
set_option linter.unusedVariables false
set_option maxRecDepth 2000
set_option linter.unusedSimpArgs false
open Go.RowKit
attribute [local go_sem] setCell_twice setCell_pair

def chkA (a : Aff) : Int := chkF [a.m0, a.m1, a.m2, a.m3, a.m4, a.m5, a.m6, a.m7, a.m8] (mostF a.tx a.ty a.tz)
def wh (x : Int) : Int := sat (x * 4294967296)
theorem wh_in (x : Int) : in64 (wh x) := in64_sat _
theorem A0_in (a : Aff) (x y z : Int) : in64 (A0 a x y z) := in64_sat _
theorem A1_in (a : Aff) (x y z : Int) : in64 (A1 a x y z) := in64_sat _
theorem A2_in (a : Aff) (x y z : Int) : in64 (A2 a x y z) := in64_sat _
def placeX (a : Aff) (px py pz : Int) : Int := rnd (A0 a (wh px) (wh py) (wh pz))
def placeY (a : Aff) (px py pz : Int) : Int := rnd (A1 a (wh px) (wh py) (wh pz))
def placeZ (a : Aff) (px py pz : Int) : Int := rnd (A2 a (wh px) (wh py) (wh pz))
/-- P4.5 -/
def placeV (a : Aff) (px py pz : Int) : Value := if chkA a = 0 then snapV (placeX a px py pz) (placeY a px py pz) (placeZ a px py pz) else .tuple #[(.agg #[.int .i64 0, .int .i64 0, .int .i64 0]), .int .i64 (chkA a)]
theorem snapV_form (x y z : Int) : ∃ X Y Z c, snapV x y z = .tuple #[(.agg #[.int .i64 X, .int .i64 Y, .int .i64 Z]), .int .i64 c] := by
  unfold snapV
  split
  · exact ⟨_, _, _, _, rfl⟩
  · exact ⟨_, _, _, _, rfl⟩
theorem CheckA (a : Aff) (ha : inA a) (w : World) : Calls Try.prog 95 #[(.agg #[.int .i64 a.m0, .int .i64 a.m1, .int .i64 a.m2, .int .i64 a.m3, .int .i64 a.m4, .int .i64 a.m5, .int .i64 a.m6, .int .i64 a.m7, .int .i64 a.m8, .int .i64 a.tx, .int .i64 a.ty, .int .i64 a.tz])] w fun e w' => e = .returned (.int .i64 (chkA a)) ∧ Below w.heap.size w w' := by
  obtain ⟨h0, h1, h2, h3, h4, h5, h6, h7, h8, h9, h10, h11⟩ := ha
  exact Check_any _ _ _ _ _ _ _ _ _ _ _ _ h0 h1 h2 h3 h4 h5 h6 h7 h8 h9 h10 h11 w
theorem Place_any (a : Aff) (px py pz : Int) (ha : inA a) (hx : in64 px) (hy : in64 py) (hz : in64 pz) (w : World) : Calls Try.prog 60 #[(.agg #[.int .i64 a.m0, .int .i64 a.m1, .int .i64 a.m2, .int .i64 a.m3, .int .i64 a.m4, .int .i64 a.m5, .int .i64 a.m6, .int .i64 a.m7, .int .i64 a.m8, .int .i64 a.tx, .int .i64 a.ty, .int .i64 a.tz]), (.agg #[.int .i64 px, .int .i64 py, .int .i64 pz])] w fun e w' => e = .returned (placeV a px py pz) ∧ Below w.heap.size w w' := by
  by_cases h : chkA a = 0
  · obtain ⟨X, Y, Z, c, e⟩ := snapV_form (placeX a px py pz) (placeY a px py pz) (placeZ a px py pz)
    have hc := CheckA a ha
    rw [h] at hc
    rw [show placeV a px py pz = _ from if_pos h, e]
    refine Place_yes _ _ _ _ _ _ _ _ _ _ _ _ _ _ _ _ _ _ _ _ _ X Y Z c w hc (fun w => VOf_any px py pz hx hy hz w) (fun w => Apply_any a (wh px) (wh py) (wh pz) ha (wh_in _) (wh_in _) (wh_in _) w) (fun w => ?_)
    have := Snap_any _ _ _ (A0_in a (wh px) (wh py) (wh pz)) (A1_in a (wh px) (wh py) (wh pz)) (A2_in a (wh px) (wh py) (wh pz)) w
    rw [show snapV (rnd (A0 a (wh px) (wh py) (wh pz))) (rnd (A1 a (wh px) (wh py) (wh pz))) (rnd (A2 a (wh px) (wh py) (wh pz))) = _ from e] at this
    exact this
  · rw [show placeV a px py pz = _ from if_neg h]
    exact Place_no _ _ _ _ _ _ _ _ _ _ _ _ _ _ _ _ (by simpa using h) w (CheckA a ha)

def exS : Aff := ⟨8589934592, 0, 0, 0, 8589934592, 0, 0, 0, 8589934592, 0, 0, 0⟩
def exM : Aff := ⟨4294967296, 0, 0, 0, 4294967296, 0, 0, 0, 4294967296, 4294967296, 0, 0⟩
def exR : Aff := ⟨8589934592, 0, 0, 0, 8589934592, 0, 0, 0, 8589934592, 4294967296, 0, 0⟩
theorem ex_fold : [exS, exM].foldl compF sameA = exR := by kernel_rfl
theorem ex_place : placeV exR 3 4 5 = .tuple #[(.agg #[.int .i64 7, .int .i64 8, .int .i64 10]), .int .i64 0] := by kernel_rfl
theorem in_exS : inA exS := by unfold inA exS in64; simp
theorem in_exM : inA exM := by unfold inA exM in64; simp
theorem in_exR : inA exR := by unfold inA exR in64; simp
theorem Then_ex (blk : Nat) (w : World) (h : Own blk [.int .i64 8589934592, .int .i64 0, .int .i64 0, .int .i64 0, .int .i64 8589934592, .int .i64 0, .int .i64 0, .int .i64 0, .int .i64 8589934592, .int .i64 0, .int .i64 0, .int .i64 0, .int .i64 4294967296, .int .i64 0, .int .i64 0, .int .i64 0, .int .i64 4294967296, .int .i64 0, .int .i64 0, .int .i64 0, .int .i64 4294967296, .int .i64 4294967296, .int .i64 0, .int .i64 0] w) : Calls Try.prog 56 #[.slice (some ⟨blk, 0, none⟩) 2 2] w fun e w' => e = .returned (.agg #[.int .i64 8589934592, .int .i64 0, .int .i64 0, .int .i64 0, .int .i64 8589934592, .int .i64 0, .int .i64 0, .int .i64 0, .int .i64 8589934592, .int .i64 4294967296, .int .i64 0, .int .i64 0]) ∧ Below w.heap.size w w' :=
  Then_walk blk 0 2 2 [exS, exM] exR (by omega) w h.lt ⟨rfl, fun k hk => match k, hk with | 0, _ => in_exS | 1, _ => in_exM, fun k hk j v hv => match k, hk with
    | 0, _ => by
      have := h.at (0 + j) v (by
        have hj : j < 12 := (List.getElem?_eq_some_iff.1 hv).1
        rw [← hv, Nat.zero_add]
        exact List.getElem?_append_left (l₁ := exS.cells) (l₂ := exM.cells) hj)
      rwa [show 0 + 0 * 12 + j = 0 + j by omega]
    | 1, _ => by
      have := h.at (12 + j) v (by
        rw [← hv]
        have := List.getElem?_append_right (l₁ := exS.cells) (l₂ := exM.cells) (i := 12 + j) (by show 12 ≤ 12 + j; omega)
        refine this.trans ?_
        show exM.cells[12 + j - 12]? = _
        rw [Nat.add_sub_cancel_left]; rfl)
      rwa [show 0 + 1 * 12 + j = 12 + j by omega]⟩ ex_fold

set_option maxHeartbeats 4000000 in
theorem works_any (w : World) : Calls Try.prog 55 #[] w fun e w' => e = .returned (.bool true) ∧ Below w.heap.size w w' := by
  have sz := Lib.hid (fun w blk (h : Own blk [.int .i64 8589934592] w) => Size_few blk 0 1 1 8589934592 (by omega) w h.lt (h.at 0 _ rfl))
  have mv := Lib.hid (Move_any 4294967296 0 0)
  have th := Lib.hid Then_ex
  have pl := Lib.hid (fun w => by have := Place_any exR 3 4 5 in_exR (by unfold in64; omega) (by unfold in64; omega) (by unfold in64; omega) w; rw [ex_place] at this; exact this)
  go_enter Try.func55, Try.ntmps55
  go_wp2_with (first | (go_at_call 51; refine (sz.out _ _ (Own.newAt rfl)).mono ?_; rintro e w1 ⟨rfl, h1⟩; have b1 : Below w.heap.size w w1 := Below.go (Below.al (Below.refl _ _)) h1; clear h1) | (go_at_call 49; refine (mv.out _).mono ?_; rintro e w2 ⟨rfl, h2⟩; have b2 : Below w.heap.size w w2 := Below.go b1 h2; clear h2) | (go_at_call 56; refine (th.out _ _ (Own.newAt rfl)).mono ?_; rintro e w3 ⟨rfl, h3⟩; have b3 : Below w.heap.size w w3 := Below.go (Below.al b2) h3; clear h3) | (go_at_call 60; refine (pl.out _).mono ?_; rintro e w4 ⟨rfl, h4⟩; have b4 : Below w.heap.size w w4 := Below.go b3 h4; have b4s := b4.size; clear h4))
  go_ret
  exact ⟨rfl, Below.al b4⟩
end Go.Proofs.Ytgggngcgcpmkbaa
