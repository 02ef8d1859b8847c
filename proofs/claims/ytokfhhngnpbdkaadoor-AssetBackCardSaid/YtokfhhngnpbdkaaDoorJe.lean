/- asset: what is encoded is decoded, what is decoded is encoded: numbers. -/
import Derived.Test.YtokfhhngnpbdkaaDoorJd
import Derived.Test.YtokfhhngnpbdkaaDoorIUn
import Derived.Test.YtokfhhngnpbdkaaDoorTXO
import Derived.Test.YtokfhhngnpbdkaaDoorMS3
import Derived.Lib.Hide
import Derived.LoopN
import Derived.LoopTactic
import Derived.Deep.Onto
import Derived.Deep.RegionHeld3
import Derived.Deep.QuietTactic
import Derived.BigQuiet
import Derived.Great.BuildSlice
import Derived.StillTailTactics
import Derived.Lib.SliceRun
namespace Go.Proofs.YtokfhhngnpbdkaaDoor
set_option linter.unusedVariables false
set_option maxRecDepth 2000
set_option linter.unusedSimpArgs false
open Go.RowKit
theorem one_dg {F : Nat → Int} {z : Int} (h : F 0 = dg z 0) : ∀ i, i < 1 → F (0 + i) = dg z i := fun i hi => by
  have e : i = 0 := by omega
  subst e
  exact h
theorem encG_d0 (g : Nat → Int) : encG g 0 = dg (g 0) 0 := by
  unfold encG
  rw [outF_head _ _ _ _ (by decide)]
  unfold encG2
  rw [outF_head _ _ _ _ (by decide)]
  unfold encG1
  exact outF_dg (fun _ => 0) 0 1 g 0 0 (by decide)
theorem encL_d0 (l : Nat → Int) : encLg l 0 = dg (l 0) 0 := by
  unfold encLg
  rw [outF_head _ _ _ _ (by decide)]
  unfold encT2
  rw [outF_head _ _ _ _ (by decide)]
  unfold encG1
  exact outF_dg (fun _ => 0) 0 1 l 0 0 (by decide)
theorem encL_c (l : Nat → Int) (r : Nat) (hr : r < 3) (i : Nat) (hi : i < 4) : encLg l (1 + 4 * r + i) = dg (l (1 + r)) i := by
  unfold encLg
  rw [outF_head _ _ _ _ (by omega)]
  unfold encT2
  rw [outF_dg _ _ _ _ r i hi]
theorem encL_p (l : Nat → Int) (r i : Nat) (hi : i < 2) : encLg l (13 + 2 * r + i) = dg (l (4 + r)) i := by
  unfold encLg
  rw [outF_dg _ _ _ _ r i hi]
theorem end_zero {N T : Nat} (h : endE N T (erN N T) = 0) : N = T := by
  rw [dec_end] at h
  by_cases a : N < T
  · rw [if_pos a] at h; cases h
  · rw [if_neg a] at h
    by_cases b : T < N
    · rw [if_pos b] at h; cases h
    · omega
theorem end_self (T : Nat) : endE T T (erN T T) = 0 := by
  rw [dec_end, if_neg (Nat.lt_irrefl _), if_neg (Nat.lt_irrefl _)]
theorem decG_enc {g : Nat → Int} (h : chkG g = 0) : ∀ j, j < 5 → g j = decG (encG g) 9 j := fun j hj => by
  have ok := okG_iff.1 (chkG_zero h)
  have p1 := pw_1; have p2 := pw_2
  match j, hj with
  | 0, _ => exact (valN_of (t := 0) (W := 1) (one_dg (encG_d0 g)) (by omega) (by omega) (by decide)).symm
  | 1, _ => exact (valN_of (t := 1) (W := 2) (fun i hi => encG_lo g 0 (by decide) i hi) (by show 0 ≤ g 1; omega) (by show g 1 < _; omega) (by decide)).symm
  | 2, _ => exact (valN_of (t := 3) (W := 2) (fun i hi => encG_lo g 1 (by decide) i hi) (by show 0 ≤ g 2; omega) (by show g 2 < _; omega) (by decide)).symm
  | 3, _ => exact (valN_of (t := 5) (W := 2) (fun i hi => encG_lo g 2 (by decide) i hi) (by show 0 ≤ g 3; omega) (by show g 3 < _; omega) (by decide)).symm
  | 4, _ => exact (valN_of (t := 7) (W := 2) (fun i hi => encG_lo g 3 (by decide) i hi) (by show 0 ≤ g 4; omega) (by show g 4 < _; omega) (by decide)).symm
theorem decL_enc {l : Nat → Int} (h : chkLg l = 0) : ∀ j, j < 13 → l j = decLt (encLg l) 31 j := fun j hj => by
  obtain ⟨⟨o0, o1, o2, o3⟩, ob, -⟩ := chkLg_zero h
  unfold lgB on3 at ob
  have p1 := pw_1; have p4 := pw_vals.2.2.2.1
  match j, hj with
  | 0, _ => exact (valN_of (t := 0) (W := 1) (one_dg (encL_d0 l)) (by omega) (by omega) (by decide)).symm
  | 1, _ => exact (valN_of (t := 1) (W := 4) (fun i hi => encL_c l 0 (by decide) i hi) (by show 0 ≤ l 1; omega) (by show l 1 < _; omega) (by decide)).symm
  | 2, _ => exact (valN_of (t := 5) (W := 4) (fun i hi => encL_c l 1 (by decide) i hi) (by show 0 ≤ l 2; omega) (by show l 2 < _; omega) (by decide)).symm
  | 3, _ => exact (valN_of (t := 9) (W := 4) (fun i hi => encL_c l 2 (by decide) i hi) (by show 0 ≤ l 3; omega) (by show l 3 < _; omega) (by decide)).symm
  | 4, _ => exact (sgnN_of (t := 13) (fun i hi => encL_p l 0 i hi) (by show -4096 ≤ l 4 ∧ l 4 ≤ 4096; omega) (by decide)).symm
  | 5, _ => exact (sgnN_of (t := 15) (fun i hi => encL_p l 1 i hi) (by show -4096 ≤ l 5 ∧ l 5 ≤ 4096; omega) (by decide)).symm
  | 6, _ => exact (sgnN_of (t := 17) (fun i hi => encL_p l 2 i hi) (by show -4096 ≤ l 6 ∧ l 6 ≤ 4096; omega) (by decide)).symm
  | 7, _ => exact (sgnN_of (t := 19) (fun i hi => encL_p l 3 i hi) (by show -4096 ≤ l 7 ∧ l 7 ≤ 4096; omega) (by decide)).symm
  | 8, _ => exact (sgnN_of (t := 21) (fun i hi => encL_p l 4 i hi) (by show -4096 ≤ l 8 ∧ l 8 ≤ 4096; omega) (by decide)).symm
  | 9, _ => exact (sgnN_of (t := 23) (fun i hi => encL_p l 5 i hi) (by show -4096 ≤ l 9 ∧ l 9 ≤ 4096; omega) (by decide)).symm
  | 10, _ => exact (sgnN_of (t := 25) (fun i hi => encL_p l 6 i hi) (by show -4096 ≤ l 10 ∧ l 10 ≤ 4096; omega) (by decide)).symm
  | 11, _ => exact (sgnN_of (t := 27) (fun i hi => encL_p l 7 i hi) (by show -4096 ≤ l 11 ∧ l 11 ≤ 4096; omega) (by decide)).symm
  | 12, _ => exact (sgnN_of (t := 29) (fun i hi => encL_p l 8 i hi) (by show -4096 ≤ l 12 ∧ l 12 ≤ 4096; omega) (by decide)).symm
theorem encG_dec {F : Nat → Int} (hF : ∀ j, j < 9 → inB (F j)) : ∀ j, j < 9 → encG (decG F 9) j = F j := fun j hj => by
  match j, hj with
  | 0, _ => exact (encG_d0 _).trans (dg_val (t := 0) (W := 1) (i := 0) hF (by decide) (by decide))
  | 1, _ => exact (encG_lo _ 0 (by decide) 0 (by decide)).trans (dg_val (t := 1) (W := 2) (i := 0) hF (by decide) (by decide))
  | 2, _ => exact (encG_lo _ 0 (by decide) 1 (by decide)).trans (dg_val (t := 1) (W := 2) (i := 1) hF (by decide) (by decide))
  | 3, _ => exact (encG_lo _ 1 (by decide) 0 (by decide)).trans (dg_val (t := 3) (W := 2) (i := 0) hF (by decide) (by decide))
  | 4, _ => exact (encG_lo _ 1 (by decide) 1 (by decide)).trans (dg_val (t := 3) (W := 2) (i := 1) hF (by decide) (by decide))
  | 5, _ => exact (encG_lo _ 2 (by decide) 0 (by decide)).trans (dg_val (t := 5) (W := 2) (i := 0) hF (by decide) (by decide))
  | 6, _ => exact (encG_lo _ 2 (by decide) 1 (by decide)).trans (dg_val (t := 5) (W := 2) (i := 1) hF (by decide) (by decide))
  | 7, _ => exact (encG_lo _ 3 (by decide) 0 (by decide)).trans (dg_val (t := 7) (W := 2) (i := 0) hF (by decide) (by decide))
  | 8, _ => exact (encG_lo _ 3 (by decide) 1 (by decide)).trans (dg_val (t := 7) (W := 2) (i := 1) hF (by decide) (by decide))
theorem encL_dec {F : Nat → Int} (hF : ∀ j, j < 31 → inB (F j)) : ∀ j, j < 31 → encLg (decLt F 31) j = F j := fun j hj => by
  match j, hj with
  | 0, _ => exact (encL_d0 _).trans (dg_val (t := 0) (W := 1) (i := 0) hF (by decide) (by decide))
  | 1, _ => exact (encL_c _ 0 (by decide) 0 (by decide)).trans (dg_val (t := 1) (W := 4) (i := 0) hF (by decide) (by decide))
  | 2, _ => exact (encL_c _ 0 (by decide) 1 (by decide)).trans (dg_val (t := 1) (W := 4) (i := 1) hF (by decide) (by decide))
  | 3, _ => exact (encL_c _ 0 (by decide) 2 (by decide)).trans (dg_val (t := 1) (W := 4) (i := 2) hF (by decide) (by decide))
  | 4, _ => exact (encL_c _ 0 (by decide) 3 (by decide)).trans (dg_val (t := 1) (W := 4) (i := 3) hF (by decide) (by decide))
  | 5, _ => exact (encL_c _ 1 (by decide) 0 (by decide)).trans (dg_val (t := 5) (W := 4) (i := 0) hF (by decide) (by decide))
  | 6, _ => exact (encL_c _ 1 (by decide) 1 (by decide)).trans (dg_val (t := 5) (W := 4) (i := 1) hF (by decide) (by decide))
  | 7, _ => exact (encL_c _ 1 (by decide) 2 (by decide)).trans (dg_val (t := 5) (W := 4) (i := 2) hF (by decide) (by decide))
  | 8, _ => exact (encL_c _ 1 (by decide) 3 (by decide)).trans (dg_val (t := 5) (W := 4) (i := 3) hF (by decide) (by decide))
  | 9, _ => exact (encL_c _ 2 (by decide) 0 (by decide)).trans (dg_val (t := 9) (W := 4) (i := 0) hF (by decide) (by decide))
  | 10, _ => exact (encL_c _ 2 (by decide) 1 (by decide)).trans (dg_val (t := 9) (W := 4) (i := 1) hF (by decide) (by decide))
  | 11, _ => exact (encL_c _ 2 (by decide) 2 (by decide)).trans (dg_val (t := 9) (W := 4) (i := 2) hF (by decide) (by decide))
  | 12, _ => exact (encL_c _ 2 (by decide) 3 (by decide)).trans (dg_val (t := 9) (W := 4) (i := 3) hF (by decide) (by decide))
  | 13, _ => exact (encL_p _ 0 0 (by decide)).trans ((dg_sgn _ 2 0 (by decide)).trans (dg_val (t := 13) (W := 2) (i := 0) hF (by decide) (by decide)))
  | 14, _ => exact (encL_p _ 0 1 (by decide)).trans ((dg_sgn _ 2 1 (by decide)).trans (dg_val (t := 13) (W := 2) (i := 1) hF (by decide) (by decide)))
  | 15, _ => exact (encL_p _ 1 0 (by decide)).trans ((dg_sgn _ 2 0 (by decide)).trans (dg_val (t := 15) (W := 2) (i := 0) hF (by decide) (by decide)))
  | 16, _ => exact (encL_p _ 1 1 (by decide)).trans ((dg_sgn _ 2 1 (by decide)).trans (dg_val (t := 15) (W := 2) (i := 1) hF (by decide) (by decide)))
  | 17, _ => exact (encL_p _ 2 0 (by decide)).trans ((dg_sgn _ 2 0 (by decide)).trans (dg_val (t := 17) (W := 2) (i := 0) hF (by decide) (by decide)))
  | 18, _ => exact (encL_p _ 2 1 (by decide)).trans ((dg_sgn _ 2 1 (by decide)).trans (dg_val (t := 17) (W := 2) (i := 1) hF (by decide) (by decide)))
  | 19, _ => exact (encL_p _ 3 0 (by decide)).trans ((dg_sgn _ 2 0 (by decide)).trans (dg_val (t := 19) (W := 2) (i := 0) hF (by decide) (by decide)))
  | 20, _ => exact (encL_p _ 3 1 (by decide)).trans ((dg_sgn _ 2 1 (by decide)).trans (dg_val (t := 19) (W := 2) (i := 1) hF (by decide) (by decide)))
  | 21, _ => exact (encL_p _ 4 0 (by decide)).trans ((dg_sgn _ 2 0 (by decide)).trans (dg_val (t := 21) (W := 2) (i := 0) hF (by decide) (by decide)))
  | 22, _ => exact (encL_p _ 4 1 (by decide)).trans ((dg_sgn _ 2 1 (by decide)).trans (dg_val (t := 21) (W := 2) (i := 1) hF (by decide) (by decide)))
  | 23, _ => exact (encL_p _ 5 0 (by decide)).trans ((dg_sgn _ 2 0 (by decide)).trans (dg_val (t := 23) (W := 2) (i := 0) hF (by decide) (by decide)))
  | 24, _ => exact (encL_p _ 5 1 (by decide)).trans ((dg_sgn _ 2 1 (by decide)).trans (dg_val (t := 23) (W := 2) (i := 1) hF (by decide) (by decide)))
  | 25, _ => exact (encL_p _ 6 0 (by decide)).trans ((dg_sgn _ 2 0 (by decide)).trans (dg_val (t := 25) (W := 2) (i := 0) hF (by decide) (by decide)))
  | 26, _ => exact (encL_p _ 6 1 (by decide)).trans ((dg_sgn _ 2 1 (by decide)).trans (dg_val (t := 25) (W := 2) (i := 1) hF (by decide) (by decide)))
  | 27, _ => exact (encL_p _ 7 0 (by decide)).trans ((dg_sgn _ 2 0 (by decide)).trans (dg_val (t := 27) (W := 2) (i := 0) hF (by decide) (by decide)))
  | 28, _ => exact (encL_p _ 7 1 (by decide)).trans ((dg_sgn _ 2 1 (by decide)).trans (dg_val (t := 27) (W := 2) (i := 1) hF (by decide) (by decide)))
  | 29, _ => exact (encL_p _ 8 0 (by decide)).trans ((dg_sgn _ 2 0 (by decide)).trans (dg_val (t := 29) (W := 2) (i := 0) hF (by decide) (by decide)))
  | 30, _ => exact (encL_p _ 8 1 (by decide)).trans ((dg_sgn _ 2 1 (by decide)).trans (dg_val (t := 29) (W := 2) (i := 1) hF (by decide) (by decide)))
  | j + 31, h => exact absurd h (by omega)
theorem kind_of {A : Ast} (h : chkA A = 0) : A.k = 1 ∨ A.k = 2 ∨ A.k = 3 ∨ A.k = 4 := by
  by_cases k1 : A.k = 1
  · exact .inl k1
  by_cases k2 : A.k = 2
  · exact .inr (.inl k2)
  by_cases k3 : A.k = 3
  · exact .inr (.inr (.inl k3))
  by_cases k4 : A.k = 4
  · exact .inr (.inr (.inr k4))
  unfold chkA at h
  rw [if_neg k1, if_neg k2, if_neg k3, if_neg k4] at h
  cases h
theorem enc_decA {A : Ast} (h : chkA A = 0) : decZ A.k (encA A) (lenA A) = 0 ∧ EqA A (decA A.k (encA A) (lenA A)) := by
  obtain ⟨k, M, X, g, l⟩ := A
  rcases kind_of h with rfl | rfl | rfl | rfl
  · obtain ⟨hz, hs⟩ := chk2_zero (show chk2 (chkM M) (sameA ⟨1, nilM, X, g, l⟩ (kinA 1)) = 0 from h)
    have hs := sameA_iff.1 hs
    have go := chk_good (show chkF M.nv M.nu M.nt M.V M.U M.R = 0 from hz)
    obtain ⟨⟨a, b⟩, c, d, e⟩ := enc_dec go
    exact ⟨enc_good hz, ⟨rfl, ⟨a.symm, fun j hj => (c j hj).symm⟩, ⟨go.hu.trans a.symm, fun j hj => (d j hj).symm⟩, ⟨b.symm, fun j hj => (e j hj).symm⟩, hs.s, ⟨hs.x.1, hs.x.2⟩, hs.g, hs.l⟩⟩
  · obtain ⟨hz, hs⟩ := chk2_zero (show chk2 (chkT X.S X.n X.f) (sameA ⟨2, M, nilX, g, l⟩ (kinA 2)) = 0 from h)
    have hs := sameA_iff.1 hs
    obtain ⟨a, b⟩ := tenc_dec hz
    obtain ⟨e1, e2, e3⟩ := b ⟨(dcS (encT X.S X.f) (1 + X.n * 3) : Int), none, dcS (encT X.S X.f) (1 + X.n * 3) * dcS (encT X.S X.f) (1 + X.n * 3), 0, fun j => encT X.S X.f (1 + j)⟩ ⟨rfl, rfl, fun _ _ => rfl⟩
    exact ⟨a, ⟨rfl, hs.v, hs.u, hs.t, e1, ⟨e2, e3⟩, hs.g, hs.l⟩⟩
  · obtain ⟨hz, hs⟩ := chk2_zero (show chk2 (chkG g) (sameA ⟨3, M, X, fun _ => 0, l⟩ (kinA 3)) = 0 from h)
    have hs := sameA_iff.1 hs
    exact ⟨end_self 9, ⟨rfl, hs.v, hs.u, hs.t, hs.s, hs.x, decG_enc hz, hs.l⟩⟩
  · obtain ⟨hz, hs⟩ := chk2_zero (show chk2 (chkLg l) (sameA ⟨4, M, X, g, fun _ => 0⟩ (kinA 4)) = 0 from h)
    have hs := sameA_iff.1 hs
    exact ⟨end_self 31, ⟨rfl, hs.v, hs.u, hs.t, hs.s, hs.x, hs.g, decL_enc hz⟩⟩
theorem enc_decE {A : Ast} (h : chkA A = 0) : decEA A.k (encA A) (lenA A) = 0 := by
  obtain ⟨h1, h2⟩ := enc_decA h
  unfold decEA
  rw [if_pos h1, ← chkA_congr h2]
  exact h
theorem decEA_zero {k : Int} {F : Nat → Int} {N : Nat} (h : decEA k F N = 0) : decZ k F N = 0 ∧ chkA (decA k F N) = 0 := by
  unfold decEA at h
  by_cases e : decZ k F N = 0
  · rw [if_pos e] at h; exact ⟨e, h⟩
  · rw [if_neg e] at h; exact absurd h e
theorem decA_k (k : Int) (F : Nat → Int) (N : Nat) : (decA k F N).k = k := by
  unfold decA
  repeat' split
  all_goals rfl
theorem dec_encA {k : Int} {F : Nat → Int} {N : Nat} (hF : ∀ j, j < N → inB (F j)) (h : decEA k F N = 0) : lenA (decA k F N) = N ∧ ∀ j, j < N → encA (decA k F N) j = F j := by
  obtain ⟨hz, hc⟩ := decEA_zero h
  have hk := kind_of hc
  rw [decA_k] at hk
  rcases hk with rfl | rfl | rfl | rfl
  · exact dec_enc hF hz
  · obtain ⟨-, a, b⟩ := tdec_enc (Z := ⟨(dcS F N : Int), none, dcS F N * dcS F N, 0, fun j => F (1 + j)⟩) (show tdecE F N = 0 from hz) hF ⟨rfl, rfl, fun _ _ => rfl⟩
    exact ⟨a, b⟩
  · obtain rfl := end_zero (show endE N 9 (erN N 9) = 0 from hz)
    exact ⟨rfl, encG_dec hF⟩
  · obtain rfl := end_zero (show endE N 31 (erN N 31) = 0 from hz)
    exact ⟨rfl, encL_dec hF⟩
theorem lenA_congr {A B : Ast} (h : EqA A B) : lenA A = lenA B := by
  unfold lenA
  rw [h.k, h.v.1, h.u.1, h.t.1, h.x.1]
theorem lenA_le {A : Ast} (h : chkA A = 0) : 0 < lenA A ∧ lenA A ≤ 900 ∧ (lenA A : Int) ≤ capF A.k := by
  obtain ⟨k, M, X, g, l⟩ := A
  rcases kind_of h with rfl | rfl | rfl | rfl
  · obtain ⟨hz, hs⟩ := chk2_zero (show chk2 (chkM M) (sameA ⟨1, nilM, X, g, l⟩ (kinA 1)) = 0 from h)
    have go := chk_good (show chkF M.nv M.nu M.nt M.V M.U M.R = 0 from hz)
    have h1 := go.hn; have h2 := go.ht; have h3 := go.hu
    show 0 < encN M.nv M.nu M.nt ∧ encN M.nv M.nu M.nt ≤ 900 ∧ (encN M.nv M.nu M.nt : Int) ≤ 2048
    unfold encN
    omega
  · obtain ⟨hz, hs⟩ := chk2_zero (show chk2 (chkT X.S X.n X.f) (sameA ⟨2, M, nilX, g, l⟩ (kinA 2)) = 0 from h)
    obtain ⟨s, e1, e2, e3⟩ := (tchk_good hz).cnt
    show 0 < 1 + X.n * 3 ∧ 1 + X.n * 3 ≤ 900 ∧ ((1 + X.n * 3 : Nat) : Int) ≤ 1024
    rw [e3]
    rcases e2 with rfl | rfl | rfl | rfl | rfl <;> decide
  · show 0 < 9 ∧ 9 ≤ 900 ∧ ((9 : Nat) : Int) ≤ 64
    decide
  · show 0 < 31 ∧ 31 ≤ 900 ∧ ((31 : Nat) : Int) ≤ 64
    decide
end Go.Proofs.YtokfhhngnpbdkaaDoor
