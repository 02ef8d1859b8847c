/- mesh: there and back: numbers. -/
import Derived.Test.YtokfhhngnpbdkaaDoorMS2
namespace Go.Proofs.YtokfhhngnpbdkaaDoor
set_option linter.unusedVariables false
set_option maxRecDepth 2000
set_option linter.unusedSimpArgs false
open Go.RowKit
theorem dg_leN (f : Nat → Int) : ∀ (n i : Nat), (∀ j, j < n → inB (f j)) → i < n → dg (leN f n) i = f i := by
  intro n i hf hi
  have e := leN_congr (f := dg (leN f n)) (g := dg (leN f n)) (n := n) (fun _ _ => rfl)
  induction n with
  | zero => omega
  | succ n ih =>
    have hl := leN_lt f n (fun j hj => hf j (by omega))
    have hb := hf n (by omega)
    unfold inB at hb
    by_cases hin : i < n
    · rw [← ih (fun j hj => hf j (by omega)) hin rfl, leN]
      unfold dg
      obtain ⟨d, rfl⟩ : ∃ d, n = i + 1 + d := ⟨n - (i + 1), by omega⟩
      rw [show pw (i + 1 + d) = pw i * (256 * pw d) by rw [pw_add, pw_succ]; simp only [Int.mul_comm, Int.mul_left_comm, Int.mul_assoc]]
      rw [Int.mul_assoc, Int.add_mul_ediv_left _ _ (by have := pw_pos i; omega), Int.mul_assoc]
      omega
    · obtain rfl : i = n := by omega
      rw [leN]
      unfold dg
      rw [Int.add_mul_ediv_left _ _ (by have := pw_pos i; omega), Int.ediv_eq_zero_of_lt hl.1 hl.2]
      omega

theorem valN_of {F : Nat → Int} {N t W : Nat} {z : Int} (h : ∀ i, i < W → F (t + i) = dg z i) (h0 : 0 ≤ z) (hz : z < pw W) (hT : t + W ≤ N) : valN F N t W = z := by
  unfold valN
  rw [if_pos hT, leN_congr (g := dg z) h, leN_dg, Int.emod_eq_of_lt h0 hz]
theorem sgnN_of {F : Nat → Int} {N t : Nat} {z : Int} (h : ∀ i, i < 2 → F (t + i) = dg z i) (hz : -4096 ≤ z ∧ z ≤ 4096) (hT : t + 2 ≤ N) : sgnN F N t = z := by
  unfold sgnN valN
  rw [if_pos hT, leN_congr (g := dg z) h, leN_dg]
  exact sgn_back z 2 (by decide) (fit_s hz)
theorem dg_sgn (z : Int) (W i : Nat) (h : i < W) : dg (sgn z W) i = dg z i := by
  unfold sgn
  split
  · have := dg_add (z - pw W) W i h
    rw [show pw W + (z - pw W) = z by omega] at this
    exact this.symm
  · rfl
theorem pw_1 : pw 1 = 256 := pw_vals.1
theorem pw_2 : pw 2 = 65536 := pw_vals.2.1
/-- what was encoded comes out again -/
theorem enc_dec {nv nu nt : Nat} {V U R : Nat → Int} (g : GoodM nv nu nt V U R) : (dcN (encF nv nu nt V U R) (encN nv nu nt) 0 = nv ∧ dcN (encF nv nu nt V U R) (encN nv nu nt) 1 = nt) ∧ (∀ j, j < nv * 3 → decV (encF nv nu nt V U R) (encN nv nu nt) j = V j) ∧ (∀ j, j < nu * 2 → decU (encF nv nu nt V U R) (encN nv nu nt) j = U j) ∧ (∀ j, j < nt * 3 → decR (encF nv nu nt V U R) (encN nv nu nt) j = R j) := by
  obtain ⟨hn, ht, hu, gv, gu, gt⟩ := g
  have EN : encN nv nu nt = 2 + nv * 6 + nu * 4 + nt * 3 := by unfold encN; omega
  have F0 := encF_0 nv nu nt V U R
  have FV := encF_v nv nu nt V U R; have FU := encF_u nv nu nt V U R; have FT := encF_t nv nu nt V U R
  generalize encF nv nu nt V U R = F at *
  generalize encN nv nu nt = N at *
  have v0 : valN F N 0 1 = (nv : Int) := valN_of (fun i hi => by
    obtain rfl : i = 0 := by omega
    exact F0 0 (by decide)) (by omega) (by rw [pw_1]; omega) (by omega)
  have v1 : valN F N 1 1 = (nt : Int) := valN_of (fun i hi => by
    obtain rfl : i = 0 := by omega
    exact F0 1 (by decide)) (by omega) (by rw [pw_1]; omega) (by omega)
  have d0 : dcN F N 0 = nv := by unfold dcN; rw [v0]; rfl
  have d1 : dcN F N 1 = nt := by unfold dcN; rw [v1]; rfl
  refine ⟨⟨d0, d1⟩, fun j hj => ?_, fun j hj => ?_, fun j hj => ?_⟩
  · unfold decV
    exact sgnN_of (fun i hi => FV j i hj hi) (gv j hj) (by omega)
  · unfold decU
    rw [d0]
    exact valN_of (fun i hi => by rw [← FU j i hj hi]; congr 1; omega) (gu j hj).1 (by rw [pw_2]; have := gu j hj; omega) (by omega)
  · unfold decR
    rw [d0]
    exact valN_of (fun i hi => by
      obtain rfl : i = 0 := by omega
      rw [← FT j]; congr 1; omega) (gt j hj).1 (by rw [pw_1]; have := gt j hj; omega) (by omega)
theorem enc_good {nv nu nt : Nat} {V U R : Nat → Int} (h : chkF nv nu nt V U R = 0) : decE (encF nv nu nt V U R) (encN nv nu nt) = 0 := by
  have g := chk_good h
  obtain ⟨⟨d0, d1⟩, dv, du, dr⟩ := enc_dec g
  have hu := g.hu
  have EN : encN nv nu nt = 2 + nv * 6 + nu * 4 + nt * 3 := by unfold encN; omega
  have T : decT (encF nv nu nt V U R) (encN nv nu nt) = encN nv nu nt := by
    unfold decT
    rw [d0, d1, EN]
    omega
  unfold decE
  rw [T, if_neg (Nat.lt_irrefl _), if_neg (Nat.lt_irrefl _), d0, d1]
  subst hu
  rw [chk_congr dv du dr]
  exact h
theorem enc_in {nv nu nt : Nat} {V U R : Nat → Int} (j : Nat) : inB (encF nv nu nt V U R j) := by
  have b0 : ∀ j, inB (enc1 nv nt j) := fun j => in_outF _ _ _ _ j (fun i hi => absurd hi (Nat.not_lt_zero i))
  have b1 : ∀ j, inB (enc2 nv nt V j) := fun j => in_outF _ _ _ _ j (fun i _ => b0 i)
  have b2 : ∀ j, inB (enc3 nv nu nt V U j) := fun j => in_outF _ _ _ _ j (fun i _ => b1 i)
  exact in_outF _ _ _ _ j (fun i _ => b2 i)
theorem dec_zero {F : Nat → Int} {N : Nat} (h : decE F N = 0) : N = decT F N ∧ chkF (dcN F N 0) (dcN F N 0) (dcN F N 1) (decV F N) (decU F N) (decR F N) = 0 := by
  unfold decE at h
  by_cases a : N < decT F N
  · rw [if_pos a] at h; omega
  · rw [if_neg a] at h
    by_cases b : decT F N < N
    · rw [if_pos b] at h; omega
    · rw [if_neg b] at h
      exact ⟨by omega, h⟩
theorem dg_val {F : Nat → Int} {N t W i : Nat} (hF : ∀ j, j < N → inB (F j)) (hT : t + W ≤ N) (hi : i < W) : dg (valN F N t W) i = F (t + i) := by
  unfold valN
  rw [if_pos hT]
  exact dg_leN (fun j => F (t + j)) W i (fun j hj => hF _ (by omega)) hi
/-- bytes that a mesh comes out of are its bytes -/
theorem dec_enc {F : Nat → Int} {N : Nat} (hF : ∀ j, j < N → inB (F j)) (h : decE F N = 0) : encN (dcN F N 0) (dcN F N 0) (dcN F N 1) = N ∧ ∀ j, j < N → encF (dcN F N 0) (dcN F N 0) (dcN F N 1) (decV F N) (decU F N) (decR F N) j = F j := by
  obtain ⟨hT, hc⟩ := dec_zero h
  have v0 := (dcN_val hF 0).1; have v1 := (dcN_val hF 1).1
  have eT : decT F N = 2 + dcN F N 0 * 10 + dcN F N 1 * 3 := rfl
  rw [eT] at hT
  have EV : ∀ j, decV F N j = sgnN F N (2 + 2 * j) := fun _ => rfl
  have EU : ∀ j, decU F N j = valN F N (2 + dcN F N 0 * 6 + 2 * j) 2 := fun _ => rfl
  have ER : ∀ j, decR F N j = valN F N (2 + dcN F N 0 * 10 + j) 1 := fun _ => rfl
  clear eT h hc
  generalize dcN F N 0 = n at *
  generalize dcN F N 1 = m at *
  generalize decV F N = GV at *
  generalize decU F N = GU at *
  generalize decR F N = GR at *
  refine ⟨by unfold encN; omega, fun j hj => ?_⟩
  by_cases h0 : j < 2
  · rw [encF_0 _ _ _ _ _ _ j h0]
    rcases (show j = 0 ∨ j = 1 by omega) with rfl | rfl
    · rw [show cntF n m 0 = (n : Int) from rfl, ← v0]
      exact dg_val hF (by omega) (by decide)
    · rw [show cntF n m 1 = (m : Int) from rfl, ← v1]
      exact dg_val hF (by omega) (by decide)
  · by_cases h1 : j < 2 + n * 6
    · have e := encF_v n n m GV GU GR ((j - 2) / 2) ((j - 2) % 2) (by omega) (by omega)
      rw [show 2 + 2 * ((j - 2) / 2) + (j - 2) % 2 = j by omega] at e
      rw [e, EV]
      unfold sgnN
      rw [dg_sgn _ _ _ (by omega), dg_val hF (by omega) (by omega)]
      congr 1
      omega
    · by_cases h2 : j < 2 + n * 10
      · have e := encF_u n n m GV GU GR ((j - (2 + n * 6)) / 2) ((j - (2 + n * 6)) % 2) (by omega) (by omega)
        rw [show 2 + 2 * (n * 3) + 2 * ((j - (2 + n * 6)) / 2) + (j - (2 + n * 6)) % 2 = j by omega] at e
        rw [e, EU, dg_val hF (by omega) (by omega)]
        congr 1
        omega
      · have e := encF_t n n m GV GU GR (j - (2 + n * 10))
        rw [show 2 + 2 * (n * 3) + 2 * (n * 2) + (j - (2 + n * 10)) = j by omega] at e
        rw [e, ER, dg_val hF (by omega) (by decide)]
        congr 1
        omega
end Go.Proofs.YtokfhhngnpbdkaaDoor

