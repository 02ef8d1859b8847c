/- Package octa, and the document's: Pick, Dot, Facing. -/
import Derived.Test.YtgggngcgcpmkbaaOB
namespace Go.Proofs.Ytgggngcgcpmkbaa
set_option linter.unusedVariables false
set_option maxRecDepth 2000
set_option linter.unusedSimpArgs false
open Go.RowKit
attribute [local go_sem] setCell_twice setCell_pair

/-- a half of a draw, scaled down -/
def scal (u : Int) : Int := u * 32769 / 65536
def pickC (x : Int) : Int := scal (x / 65536) * 65536 + scal (x % 65536)
theorem scal_bd (u : Int) (h0 : 0 ≤ u) (h1 : u < 65536) : 0 ≤ scal u ∧ scal u ≤ 32768 := by unfold scal; omega
theorem pickC_bd (x : Int) (h0 : 0 ≤ x) (h1 : x < 4294967296) : 0 ≤ pickC x ∧ pickC x < 4294967296 := by
  have a := scal_bd (x / 65536) (by omega) (by omega)
  have b := scal_bd (x % 65536) (by omega) (by omega)
  unfold pickC; omega
theorem cscale_any (u : Int) (h0 : 0 ≤ u) (h1 : u < 65536) (w : World) :
    Calls Try.prog 67 #[.int .i64 u] w fun e w' => e = .returned (.int .i64 (scal u)) ∧ w = w' := by
  go_enter Try.func67, Try.ntmps67
  go_wp2
  go_ret
  exact ⟨rfl, rfl⟩
theorem OPick_core (x u v U V C X Y Z : Int) (w : World)
    (hh : Hid (∀ w, Calls Try.prog 61 #[.int .u32 x] w fun e w' => e = .returned (.tuple #[.int .i64 u, .int .i64 v]) ∧ w = w'))
    (su : Hid (∀ w, Calls Try.prog 67 #[.int .i64 u] w fun e w' => e = .returned (.int .i64 U) ∧ w = w'))
    (sv : Hid (∀ w, Calls Try.prog 67 #[.int .i64 v] w fun e w' => e = .returned (.int .i64 V) ∧ w = w'))
    (jn : Hid (∀ w, Calls Try.prog 68 #[.int .i64 U, .int .i64 V] w fun e w' => e = .returned (.int .u32 C) ∧ w = w'))
    (dc : Hid (∀ w, Calls Try.prog 15 #[.int .u32 C] w fun e w' => e = .returned (.agg #[.int .i64 X, .int .i64 Y, .int .i64 Z]) ∧ Below w.heap.size w w')) :
    Calls Try.prog 17 #[.int .u32 x] w fun e w' => e = .returned (.agg #[.int .i64 X, .int .i64 Y, .int .i64 Z]) ∧ Below w.heap.size w w' := by
  have hmf : ∀ (fn : Fn) (first cap : Array Value) (w : World), (Instr.makeFunc fn first cap).run Try.prog w = .ok (.func fn first cap) w := fun _ _ _ _ => rfl
  go_enter Try.func17, Try.ntmps17
  go_wp2_with (first | (go_at_call 61; refine (hh.out _).mono ?_; rintro e w1 ⟨rfl, rfl⟩))
  go_at_call 67; refine (su.out _).mono ?_; rintro e w1 ⟨rfl, rfl⟩
  go_wp2_with (fail)
  go_at_call 67; refine (sv.out _).mono ?_; rintro e w1 ⟨rfl, rfl⟩
  go_wp2_with (first | (go_at_call 68; refine (jn.out _).mono ?_; rintro e w1 ⟨rfl, rfl⟩))
  go_at_call 15; refine (dc.out _).mono ?_; rintro e w1 ⟨rfl, hb⟩
  have oR : Own w.heap.size [.int .i64 0, .int .i64 0, .int .i64 0] w1 := (Own.newAt (W := w) (cs := #[.int .i64 0, .int .i64 0, .int .i64 0]) (T := 24) rfl).later hb
  have rc0 := oR.at 0 _ rfl
  have rc1 := oR.at 1 _ rfl
  have rc2 := oR.at 2 _ rfl
  have rf0 := oR.ok 0 (by simp)
  have rf1 := oR.ok 1 (by simp)
  have rf2 := oR.ok 2 (by simp)
  have rl := oR.lt
  have hB : Below w.heap.size w w1 := Below.go (Below.al (Below.refl _ _)) hb
  clear hb oR
  go_wp2
  exact bodyPost_ret (v := (.agg #[.int .i64 X, .int .i64 Y, .int .i64 Z])) (by simp [results, Try.results17, go_sem, rc0, rc1, rc2, rf0, rf1, rf2]) rfl ⟨rfl, (by repeat (first | (with_reducible exact Below.refl _ _) | (with_reducible assumption) | (with_reducible refine below_drewN ?_ _) | (with_reducible refine Below.drew ?_) | (with_reducible refine Below.alloc ?_ ?_ _) | (with_reducible refine Below.setCell ?_ ?_ _) | (with_reducible exact Nat.le_refl _) | exact Nat.le_succ _ | (simp; done) | (simp; omega) | omega | fail))⟩
theorem OPick_any (x : Int) (h0 : 0 ≤ x) (h1 : x < 4294967296) (w : World) : Calls Try.prog 17 #[.int .u32 x] w fun e w' => e = .returned (decV (pickC x)) ∧ Below w.heap.size w w' := by
  have a := scal_bd (x / 65536) (by omega) (by omega)
  have b := scal_bd (x % 65536) (by omega) (by omega)
  have c := pickC_bd x h0 h1
  exact OPick_core x (x / 65536) (x % 65536) (scal (x / 65536)) (scal (x % 65536)) (pickC x) _ _ _ w (Lib.hid (halves_any x h0 h1)) (Lib.hid (cscale_any _ (by omega) (by omega))) (Lib.hid (cscale_any _ (by omega) (by omega))) (Lib.hid (join_any _ _ a.1 a.2 b.1 b.2)) (Lib.hid (ODecode_any _ c.1 c.2))
theorem RPick_core (x u v U V C X Y Z : Int) (hu : 0 ≤ u) (hu1 : u < 65536) (hv : 0 ≤ v) (hv1 : v < 65536) (hU : u * 32769 / 65536 = U) (hV : v * 32769 / 65536 = V) (hC : U * 65536 + V = C) (bC : 0 ≤ C ∧ C < 4294967296) (eu : x / 65536 = u) (ev : x % 65536 = v) (hx : 0 ≤ x) (hx1 : x < 4294967296) (w : World)
    (dc : Hid (∀ w, Calls Try.prog 16 #[.int .u32 C] w fun e w' => e = .returned (.agg #[.int .i64 X, .int .i64 Y, .int .i64 Z]) ∧ Below w.heap.size w w')) :
    Calls Try.prog 18 #[.int .u32 x] w fun e w' => e = .returned (.agg #[.int .i64 X, .int .i64 Y, .int .i64 Z]) ∧ Below w.heap.size w w' := by
  have em : C % 4294967296 = C := by omega
  go_enter Try.func18, Try.ntmps18
  go_wp2_with (fail)
  go_at_call 16; refine (dc.out _).mono ?_; rintro e w1 ⟨rfl, hb⟩
  have oR : Own w.heap.size [.int .i64 0, .int .i64 0, .int .i64 0] w1 := (Own.newAt (W := w) (cs := #[.int .i64 0, .int .i64 0, .int .i64 0]) (T := 24) rfl).later hb
  have rc0 := oR.at 0 _ rfl
  have rc1 := oR.at 1 _ rfl
  have rc2 := oR.at 2 _ rfl
  have rf0 := oR.ok 0 (by simp)
  have rf1 := oR.ok 1 (by simp)
  have rf2 := oR.ok 2 (by simp)
  have rl := oR.lt
  have hB : Below w.heap.size w w1 := Below.go (Below.al (Below.refl _ _)) hb
  clear hb oR
  go_wp2
  exact bodyPost_ret (v := (.agg #[.int .i64 X, .int .i64 Y, .int .i64 Z])) (by simp [results, Try.results18, go_sem, rc0, rc1, rc2, rf0, rf1, rf2]) rfl ⟨rfl, (by repeat (first | (with_reducible exact Below.refl _ _) | (with_reducible assumption) | (with_reducible refine below_drewN ?_ _) | (with_reducible refine Below.drew ?_) | (with_reducible refine Below.alloc ?_ ?_ _) | (with_reducible refine Below.setCell ?_ ?_ _) | (with_reducible exact Nat.le_refl _) | exact Nat.le_succ _ | (simp; done) | (simp; omega) | omega | fail))⟩
theorem RPick_any (x : Int) (h0 : 0 ≤ x) (h1 : x < 4294967296) (w : World) : Calls Try.prog 18 #[.int .u32 x] w fun e w' => e = .returned (decV (pickC x)) ∧ Below w.heap.size w w' := by
  have c := pickC_bd x h0 h1
  exact RPick_core x (x / 65536) (x % 65536) (scal (x / 65536)) (scal (x % 65536)) (pickC x) _ _ _ (by omega) (by omega) (by omega) (by omega) rfl rfl rfl c rfl rfl h0 h1 w (Lib.hid (RDecode_any _ c.1 c.2))

def dotW (a b c x y z : Int) : Int := wrap64 (wrap64 (wrap64 (a * x) + wrap64 (b * y)) + wrap64 (c * z))
def facW (k a : Int) : Int := if k < 0 then wrap64 (-a) else a
theorem ODot_any (a b c x y z : Int) (w : World) : Calls Try.prog 26 #[(.agg #[.int .i64 a, .int .i64 b, .int .i64 c]), (.agg #[.int .i64 x, .int .i64 y, .int .i64 z])] w fun e w' => e = .returned (.int .i64 (dotW a b c x y z)) ∧ Below w.heap.size w w' := by
  go_enter Try.func26, Try.ntmps26
  go_wp2
  go_ret
  exact ⟨rfl, (by repeat (first | (with_reducible exact Below.refl _ _) | (with_reducible assumption) | (with_reducible refine below_drewN ?_ _) | (with_reducible refine Below.drew ?_) | (with_reducible refine Below.alloc ?_ ?_ _) | (with_reducible refine Below.setCell ?_ ?_ _) | (with_reducible exact Nat.le_refl _) | exact Nat.le_succ _ | (simp; done) | (simp; omega) | omega | fail))⟩
theorem OFacing_neg (a b c x y z k : Int) (h : k < 0) (w : World)
    (dt : Hid (∀ w, Calls Try.prog 26 #[(.agg #[.int .i64 a, .int .i64 b, .int .i64 c]), (.agg #[.int .i64 x, .int .i64 y, .int .i64 z])] w fun e w' => e = .returned (.int .i64 k) ∧ Below w.heap.size w w')) :
    Calls Try.prog 28 #[(.agg #[.int .i64 a, .int .i64 b, .int .i64 c]), (.agg #[.int .i64 x, .int .i64 y, .int .i64 z])] w fun e w' => e = .returned (.agg #[.int .i64 (wrap64 (-a)), .int .i64 (wrap64 (-b)), .int .i64 (wrap64 (-c))]) ∧ Below w.heap.size w w' := by
  go_enter Try.func28, Try.ntmps28
  go_wp2_with (fail)
  obtain ⟨W0, hW⟩ : ∃ W0, W0 = (((w.alloc (.cells #[.int .i64 a, .int .i64 b, .int .i64 c] 24)).alloc (.cells #[.int .i64 x, .int .i64 y, .int .i64 z] 24)).alloc (.cells #[.int .i64 0, .int .i64 0, .int .i64 0] 24)) := ⟨_, rfl⟩
  have hB0 : Below w.heap.size w W0 := hW ▸ (Below.al (Below.al (Below.al (Below.refl _ _))))
  have HA : Hid (Own w.heap.size [.int .i64 a, .int .i64 b, .int .i64 c] W0) := Lib.hid (hW ▸ (Own.newAt (by simp)).alloc.alloc)
  have HN : Hid (Own (w.heap.size + 1) [.int .i64 x, .int .i64 y, .int .i64 z] W0) := Lib.hid (hW ▸ (Own.newAt (by simp)).alloc)
  have HR : Hid (Own ((w.heap.size + 1) + 1) [.int .i64 0, .int .i64 0, .int .i64 0] W0) := Lib.hid (hW ▸ (Own.newAt (by simp)))
  rw [← hW]
  clear hW
  obtain ⟨R, eR⟩ : ∃ X, X = ((w.heap.size + 1) + 1) := ⟨_, rfl⟩
  rw [← eR] at HR ⊢
  have Rw : w.heap.size ≤ R := by omega
  obtain ⟨N, eN⟩ : ∃ X, X = (w.heap.size + 1) := ⟨_, rfl⟩
  rw [← eN] at HN ⊢
  have Nw : w.heap.size ≤ N := by omega
  obtain ⟨A, eA⟩ : ∃ X, X = w.heap.size := ⟨_, rfl⟩
  rw [← eA] at HA ⊢
  have Aw : w.heap.size ≤ A := by omega
  have nAN : A ≠ N := by omega
  have nNA : N ≠ A := by omega
  have nAR : A ≠ R := by omega
  have nRA : R ≠ A := by omega
  have nNR : N ≠ R := by omega
  have nRN : R ≠ N := by omega
  clear eA eN eR
  go_at_call 26; refine (dt.out _).mono ?_; rintro e w1 ⟨rfl, hb⟩
  have hB : Below w.heap.size w w1 := Below.go hB0 hb
  replace HA := Lib.hid (HA.out.later hb); replace HR := Lib.hid (HR.out.later hb)
  clear hb hB0 HN
  have oA := HA.out
  have A0 := oA.at 0 _ rfl
  have A1 := oA.at 1 _ rfl
  have A2 := oA.at 2 _ rfl
  have Al := oA.lt
  clear oA
  have oR := HR.out
  have R0 := oR.at 0 _ rfl
  have Rf0 := oR.ok 0 (by simp)
  have R1 := oR.at 1 _ rfl
  have Rf1 := oR.ok 1 (by simp)
  have R2 := oR.at 2 _ rfl
  have Rf2 := oR.ok 2 (by simp)
  have Rl := oR.lt
  clear oR
  go_wp2
  exact bodyPost_ret (v := (.agg #[.int .i64 (wrap64 (-a)), .int .i64 (wrap64 (-b)), .int .i64 (wrap64 (-c))])) (by simp [results, Try.results28, go_sem, R0, R1, R2, Rf0, Rf1, Rf2]) rfl ⟨rfl, (by repeat (first | (with_reducible exact Below.refl _ _) | (with_reducible assumption) | (with_reducible refine below_drewN ?_ _) | (with_reducible refine Below.drew ?_) | (with_reducible refine Below.alloc ?_ ?_ _) | (with_reducible refine Below.setCell ?_ ?_ _) | (with_reducible exact Nat.le_refl _) | exact Nat.le_succ _ | (simp; done) | (simp; omega) | omega | fail))⟩
theorem OFacing_pos (a b c x y z k : Int) (h : 0 ≤ k) (w : World)
    (dt : Hid (∀ w, Calls Try.prog 26 #[(.agg #[.int .i64 a, .int .i64 b, .int .i64 c]), (.agg #[.int .i64 x, .int .i64 y, .int .i64 z])] w fun e w' => e = .returned (.int .i64 k) ∧ Below w.heap.size w w')) :
    Calls Try.prog 28 #[(.agg #[.int .i64 a, .int .i64 b, .int .i64 c]), (.agg #[.int .i64 x, .int .i64 y, .int .i64 z])] w fun e w' => e = .returned (.agg #[.int .i64 a, .int .i64 b, .int .i64 c]) ∧ Below w.heap.size w w' := by
  go_enter Try.func28, Try.ntmps28
  go_wp2_with (fail)
  obtain ⟨W0, hW⟩ : ∃ W0, W0 = (((w.alloc (.cells #[.int .i64 a, .int .i64 b, .int .i64 c] 24)).alloc (.cells #[.int .i64 x, .int .i64 y, .int .i64 z] 24)).alloc (.cells #[.int .i64 0, .int .i64 0, .int .i64 0] 24)) := ⟨_, rfl⟩
  have hB0 : Below w.heap.size w W0 := hW ▸ (Below.al (Below.al (Below.al (Below.refl _ _))))
  have HA : Hid (Own w.heap.size [.int .i64 a, .int .i64 b, .int .i64 c] W0) := Lib.hid (hW ▸ (Own.newAt (by simp)).alloc.alloc)
  have HN : Hid (Own (w.heap.size + 1) [.int .i64 x, .int .i64 y, .int .i64 z] W0) := Lib.hid (hW ▸ (Own.newAt (by simp)).alloc)
  have HR : Hid (Own ((w.heap.size + 1) + 1) [.int .i64 0, .int .i64 0, .int .i64 0] W0) := Lib.hid (hW ▸ (Own.newAt (by simp)))
  rw [← hW]
  clear hW
  obtain ⟨R, eR⟩ : ∃ X, X = ((w.heap.size + 1) + 1) := ⟨_, rfl⟩
  rw [← eR] at HR ⊢
  have Rw : w.heap.size ≤ R := by omega
  obtain ⟨N, eN⟩ : ∃ X, X = (w.heap.size + 1) := ⟨_, rfl⟩
  rw [← eN] at HN ⊢
  have Nw : w.heap.size ≤ N := by omega
  obtain ⟨A, eA⟩ : ∃ X, X = w.heap.size := ⟨_, rfl⟩
  rw [← eA] at HA ⊢
  have Aw : w.heap.size ≤ A := by omega
  have nAN : A ≠ N := by omega
  have nNA : N ≠ A := by omega
  have nAR : A ≠ R := by omega
  have nRA : R ≠ A := by omega
  have nNR : N ≠ R := by omega
  have nRN : R ≠ N := by omega
  clear eA eN eR
  go_at_call 26; refine (dt.out _).mono ?_; rintro e w1 ⟨rfl, hb⟩
  have hB : Below w.heap.size w w1 := Below.go hB0 hb
  replace HA := Lib.hid (HA.out.later hb); replace HR := Lib.hid (HR.out.later hb)
  clear hb hB0 HN
  have oA := HA.out
  have A0 := oA.at 0 _ rfl
  have A1 := oA.at 1 _ rfl
  have A2 := oA.at 2 _ rfl
  have Al := oA.lt
  clear oA
  have oR := HR.out
  have R0 := oR.at 0 _ rfl
  have Rf0 := oR.ok 0 (by simp)
  have R1 := oR.at 1 _ rfl
  have Rf1 := oR.ok 1 (by simp)
  have R2 := oR.at 2 _ rfl
  have Rf2 := oR.ok 2 (by simp)
  have Rl := oR.lt
  clear oR
  go_wp2
  exact bodyPost_ret (v := (.agg #[.int .i64 a, .int .i64 b, .int .i64 c])) (by simp [results, Try.results28, go_sem, R0, R1, R2, Rf0, Rf1, Rf2]) rfl ⟨rfl, (by repeat (first | (with_reducible exact Below.refl _ _) | (with_reducible assumption) | (with_reducible refine below_drewN ?_ _) | (with_reducible refine Below.drew ?_) | (with_reducible refine Below.alloc ?_ ?_ _) | (with_reducible refine Below.setCell ?_ ?_ _) | (with_reducible exact Nat.le_refl _) | exact Nat.le_succ _ | (simp; done) | (simp; omega) | omega | fail))⟩
theorem OFacing_any (a b c x y z : Int) (w : World) : Calls Try.prog 28 #[(.agg #[.int .i64 a, .int .i64 b, .int .i64 c]), (.agg #[.int .i64 x, .int .i64 y, .int .i64 z])] w fun e w' => e = .returned (.agg #[.int .i64 (facW (dotW a b c x y z) a), .int .i64 (facW (dotW a b c x y z) b), .int .i64 (facW (dotW a b c x y z) c)]) ∧ Below w.heap.size w w' := by
  unfold facW
  by_cases h : dotW a b c x y z < 0
  · simp only [if_pos h]
    exact OFacing_neg a b c x y z _ h w (Lib.hid (ODot_any a b c x y z))
  · simp only [if_neg h]
    exact OFacing_pos a b c x y z _ (by omega) w (Lib.hid (ODot_any a b c x y z))
theorem RDot_any (a b c x y z : Int) (w : World) : Calls Try.prog 27 #[(.agg #[.int .i64 a, .int .i64 b, .int .i64 c]), (.agg #[.int .i64 x, .int .i64 y, .int .i64 z])] w fun e w' => e = .returned (.int .i64 (dotW a b c x y z)) ∧ Below w.heap.size w w' := by
  go_enter Try.func27, Try.ntmps27
  go_wp2
  go_ret
  exact ⟨rfl, (by repeat (first | (with_reducible exact Below.refl _ _) | (with_reducible assumption) | (with_reducible refine below_drewN ?_ _) | (with_reducible refine Below.drew ?_) | (with_reducible refine Below.alloc ?_ ?_ _) | (with_reducible refine Below.setCell ?_ ?_ _) | (with_reducible exact Nat.le_refl _) | exact Nat.le_succ _ | (simp; done) | (simp; omega) | omega | fail))⟩
theorem RFacing_neg (a b c x y z k : Int) (h : k < 0) (w : World)
    (dt : Hid (∀ w, Calls Try.prog 27 #[(.agg #[.int .i64 a, .int .i64 b, .int .i64 c]), (.agg #[.int .i64 x, .int .i64 y, .int .i64 z])] w fun e w' => e = .returned (.int .i64 k) ∧ Below w.heap.size w w')) :
    Calls Try.prog 29 #[(.agg #[.int .i64 a, .int .i64 b, .int .i64 c]), (.agg #[.int .i64 x, .int .i64 y, .int .i64 z])] w fun e w' => e = .returned (.agg #[.int .i64 (wrap64 (-a)), .int .i64 (wrap64 (-b)), .int .i64 (wrap64 (-c))]) ∧ Below w.heap.size w w' := by
  go_enter Try.func29, Try.ntmps29
  go_wp2_with (fail)
  obtain ⟨W0, hW⟩ : ∃ W0, W0 = (((w.alloc (.cells #[.int .i64 a, .int .i64 b, .int .i64 c] 24)).alloc (.cells #[.int .i64 x, .int .i64 y, .int .i64 z] 24)).alloc (.cells #[.int .i64 0, .int .i64 0, .int .i64 0] 24)) := ⟨_, rfl⟩
  have hB0 : Below w.heap.size w W0 := hW ▸ (Below.al (Below.al (Below.al (Below.refl _ _))))
  have HA : Hid (Own w.heap.size [.int .i64 a, .int .i64 b, .int .i64 c] W0) := Lib.hid (hW ▸ (Own.newAt (by simp)).alloc.alloc)
  have HN : Hid (Own (w.heap.size + 1) [.int .i64 x, .int .i64 y, .int .i64 z] W0) := Lib.hid (hW ▸ (Own.newAt (by simp)).alloc)
  have HR : Hid (Own ((w.heap.size + 1) + 1) [.int .i64 0, .int .i64 0, .int .i64 0] W0) := Lib.hid (hW ▸ (Own.newAt (by simp)))
  rw [← hW]
  clear hW
  obtain ⟨R, eR⟩ : ∃ X, X = ((w.heap.size + 1) + 1) := ⟨_, rfl⟩
  rw [← eR] at HR ⊢
  have Rw : w.heap.size ≤ R := by omega
  obtain ⟨N, eN⟩ : ∃ X, X = (w.heap.size + 1) := ⟨_, rfl⟩
  rw [← eN] at HN ⊢
  have Nw : w.heap.size ≤ N := by omega
  obtain ⟨A, eA⟩ : ∃ X, X = w.heap.size := ⟨_, rfl⟩
  rw [← eA] at HA ⊢
  have Aw : w.heap.size ≤ A := by omega
  have nAN : A ≠ N := by omega
  have nNA : N ≠ A := by omega
  have nAR : A ≠ R := by omega
  have nRA : R ≠ A := by omega
  have nNR : N ≠ R := by omega
  have nRN : R ≠ N := by omega
  clear eA eN eR
  go_at_call 27; refine (dt.out _).mono ?_; rintro e w1 ⟨rfl, hb⟩
  have hB : Below w.heap.size w w1 := Below.go hB0 hb
  replace HA := Lib.hid (HA.out.later hb); replace HR := Lib.hid (HR.out.later hb)
  clear hb hB0 HN
  have oA := HA.out
  have A0 := oA.at 0 _ rfl
  have A1 := oA.at 1 _ rfl
  have A2 := oA.at 2 _ rfl
  have Al := oA.lt
  clear oA
  have oR := HR.out
  have R0 := oR.at 0 _ rfl
  have Rf0 := oR.ok 0 (by simp)
  have R1 := oR.at 1 _ rfl
  have Rf1 := oR.ok 1 (by simp)
  have R2 := oR.at 2 _ rfl
  have Rf2 := oR.ok 2 (by simp)
  have Rl := oR.lt
  clear oR
  go_wp2
  exact bodyPost_ret (v := (.agg #[.int .i64 (wrap64 (-a)), .int .i64 (wrap64 (-b)), .int .i64 (wrap64 (-c))])) (by simp [results, Try.results29, go_sem, R0, R1, R2, Rf0, Rf1, Rf2]) rfl ⟨rfl, (by repeat (first | (with_reducible exact Below.refl _ _) | (with_reducible assumption) | (with_reducible refine below_drewN ?_ _) | (with_reducible refine Below.drew ?_) | (with_reducible refine Below.alloc ?_ ?_ _) | (with_reducible refine Below.setCell ?_ ?_ _) | (with_reducible exact Nat.le_refl _) | exact Nat.le_succ _ | (simp; done) | (simp; omega) | omega | fail))⟩
theorem RFacing_pos (a b c x y z k : Int) (h : 0 ≤ k) (w : World)
    (dt : Hid (∀ w, Calls Try.prog 27 #[(.agg #[.int .i64 a, .int .i64 b, .int .i64 c]), (.agg #[.int .i64 x, .int .i64 y, .int .i64 z])] w fun e w' => e = .returned (.int .i64 k) ∧ Below w.heap.size w w')) :
    Calls Try.prog 29 #[(.agg #[.int .i64 a, .int .i64 b, .int .i64 c]), (.agg #[.int .i64 x, .int .i64 y, .int .i64 z])] w fun e w' => e = .returned (.agg #[.int .i64 a, .int .i64 b, .int .i64 c]) ∧ Below w.heap.size w w' := by
  go_enter Try.func29, Try.ntmps29
  go_wp2_with (fail)
  obtain ⟨W0, hW⟩ : ∃ W0, W0 = (((w.alloc (.cells #[.int .i64 a, .int .i64 b, .int .i64 c] 24)).alloc (.cells #[.int .i64 x, .int .i64 y, .int .i64 z] 24)).alloc (.cells #[.int .i64 0, .int .i64 0, .int .i64 0] 24)) := ⟨_, rfl⟩
  have hB0 : Below w.heap.size w W0 := hW ▸ (Below.al (Below.al (Below.al (Below.refl _ _))))
  have HA : Hid (Own w.heap.size [.int .i64 a, .int .i64 b, .int .i64 c] W0) := Lib.hid (hW ▸ (Own.newAt (by simp)).alloc.alloc)
  have HN : Hid (Own (w.heap.size + 1) [.int .i64 x, .int .i64 y, .int .i64 z] W0) := Lib.hid (hW ▸ (Own.newAt (by simp)).alloc)
  have HR : Hid (Own ((w.heap.size + 1) + 1) [.int .i64 0, .int .i64 0, .int .i64 0] W0) := Lib.hid (hW ▸ (Own.newAt (by simp)))
  rw [← hW]
  clear hW
  obtain ⟨R, eR⟩ : ∃ X, X = ((w.heap.size + 1) + 1) := ⟨_, rfl⟩
  rw [← eR] at HR ⊢
  have Rw : w.heap.size ≤ R := by omega
  obtain ⟨N, eN⟩ : ∃ X, X = (w.heap.size + 1) := ⟨_, rfl⟩
  rw [← eN] at HN ⊢
  have Nw : w.heap.size ≤ N := by omega
  obtain ⟨A, eA⟩ : ∃ X, X = w.heap.size := ⟨_, rfl⟩
  rw [← eA] at HA ⊢
  have Aw : w.heap.size ≤ A := by omega
  have nAN : A ≠ N := by omega
  have nNA : N ≠ A := by omega
  have nAR : A ≠ R := by omega
  have nRA : R ≠ A := by omega
  have nNR : N ≠ R := by omega
  have nRN : R ≠ N := by omega
  clear eA eN eR
  go_at_call 27; refine (dt.out _).mono ?_; rintro e w1 ⟨rfl, hb⟩
  have hB : Below w.heap.size w w1 := Below.go hB0 hb
  replace HA := Lib.hid (HA.out.later hb); replace HR := Lib.hid (HR.out.later hb)
  clear hb hB0 HN
  have oA := HA.out
  have A0 := oA.at 0 _ rfl
  have A1 := oA.at 1 _ rfl
  have A2 := oA.at 2 _ rfl
  have Al := oA.lt
  clear oA
  have oR := HR.out
  have R0 := oR.at 0 _ rfl
  have Rf0 := oR.ok 0 (by simp)
  have R1 := oR.at 1 _ rfl
  have Rf1 := oR.ok 1 (by simp)
  have R2 := oR.at 2 _ rfl
  have Rf2 := oR.ok 2 (by simp)
  have Rl := oR.lt
  clear oR
  go_wp2
  exact bodyPost_ret (v := (.agg #[.int .i64 a, .int .i64 b, .int .i64 c])) (by simp [results, Try.results29, go_sem, R0, R1, R2, Rf0, Rf1, Rf2]) rfl ⟨rfl, (by repeat (first | (with_reducible exact Below.refl _ _) | (with_reducible assumption) | (with_reducible refine below_drewN ?_ _) | (with_reducible refine Below.drew ?_) | (with_reducible refine Below.alloc ?_ ?_ _) | (with_reducible refine Below.setCell ?_ ?_ _) | (with_reducible exact Nat.le_refl _) | exact Nat.le_succ _ | (simp; done) | (simp; omega) | omega | fail))⟩
theorem RFacing_any (a b c x y z : Int) (w : World) : Calls Try.prog 29 #[(.agg #[.int .i64 a, .int .i64 b, .int .i64 c]), (.agg #[.int .i64 x, .int .i64 y, .int .i64 z])] w fun e w' => e = .returned (.agg #[.int .i64 (facW (dotW a b c x y z) a), .int .i64 (facW (dotW a b c x y z) b), .int .i64 (facW (dotW a b c x y z) c)]) ∧ Below w.heap.size w w' := by
  unfold facW
  by_cases h : dotW a b c x y z < 0
  · simp only [if_pos h]
    exact RFacing_neg a b c x y z _ h w (Lib.hid (RDot_any a b c x y z))
  · simp only [if_neg h]
    exact RFacing_pos a b c x y z _ (by omega) w (Lib.hid (RDot_any a b c x y z))
end Go.Proofs.Ytgggngcgcpmkbaa
