/- asset: decode of all kinds, Decode. -/
import Derived.Test.YtokfhhngnpbdkaaDoorJc
import Derived.Lib.Hide
import Derived.LoopN
import Derived.LoopTactic
import Derived.Deep.Onto
import Derived.Deep.RegionHeld3
import Derived.Deep.QuietTactic
import Derived.BigQuiet
import Derived.Great.BuildSlice
import Derived.StillTailTactics
import Derived.Lib.SliceRun
import Derived.OrdersHeld
namespace Go.Proofs.YtokfhhngnpbdkaaDoor
set_option linter.unusedVariables false
set_option maxRecDepth 2000
set_option linter.unusedSimpArgs false
open Go.RowKit
set_option maxHeartbeats 8000000 in
theorem decode_0 (k : Int) (hk : k ≠ 1 ∧ k ≠ 2 ∧ k ≠ 3 ∧ k ≠ 4) (q : Option Addr) (N c : Nat) (w : World) :
    Calls Tryd.prog 36 #[.int .i64 k, .slice q N c] w fun e w' => e = .returned (.tuple #[(.agg #[.int .i64 k, .slice none 0 0, .slice none 0 0, .slice none 0 0, .int .i64 0, .slice none 0 0, .int .i64 0, .int .i64 0, .int .i64 0, .int .i64 0, .int .i64 0, .int .i64 0, .int .i64 0, .int .i64 0, .int .i64 0, .int .i64 0, .int .i64 0, .int .i64 0, .int .i64 0, .int .i64 0, .int .i64 0, .int .i64 0, .int .i64 0, .int .i64 0]), .int .i64 12]) ∧ Below w.heap.size w w' := by
  have d1 : (k == 1) = false := by simpa using hk.1
  have d2 : (k == 2) = false := by simpa using hk.2.1
  have d3 : (k == 3) = false := by simpa using hk.2.2.1
  have d4 : (k == 4) = false := by simpa using hk.2.2.2
  clear hk
  go_enter Tryd.func36, Tryd.ntmps36
  go_upto_region 1 with fail
  obtain ⟨W0, hW⟩ : ∃ W0, W0 = (w.alloc (.cells #[.int .i64 0, .slice none 0 0, .slice none 0 0, .slice none 0 0, .int .i64 0, .slice none 0 0, .int .i64 0, .int .i64 0, .int .i64 0, .int .i64 0, .int .i64 0, .int .i64 0, .int .i64 0, .int .i64 0, .int .i64 0, .int .i64 0, .int .i64 0, .int .i64 0, .int .i64 0, .int .i64 0, .int .i64 0, .int .i64 0, .int .i64 0, .int .i64 0] 37)) := ⟨_, rfl⟩
  have hB0 : Below w.heap.size w W0 := hW ▸ (Below.al (Below.refl _ _))
  have HP : Hid (Own w.heap.size ([.int .i64 0, .slice none 0 0, .slice none 0 0, .slice none 0 0, .int .i64 0, .slice none 0 0, .int .i64 0, .int .i64 0, .int .i64 0, .int .i64 0, .int .i64 0, .int .i64 0, .int .i64 0, .int .i64 0, .int .i64 0, .int .i64 0, .int .i64 0, .int .i64 0, .int .i64 0, .int .i64 0, .int .i64 0, .int .i64 0, .int .i64 0, .int .i64 0]) W0) := Lib.hid (hW ▸ (show Own w.heap.size ([.int .i64 0, .slice none 0 0, .slice none 0 0, .slice none 0 0, .int .i64 0, .slice none 0 0, .int .i64 0, .int .i64 0, .int .i64 0, .int .i64 0, .int .i64 0, .int .i64 0, .int .i64 0, .int .i64 0, .int .i64 0, .int .i64 0, .int .i64 0, .int .i64 0, .int .i64 0, .int .i64 0, .int .i64 0, .int .i64 0, .int .i64 0, .int .i64 0]) (w.alloc (.cells #[.int .i64 0, .slice none 0 0, .slice none 0 0, .slice none 0 0, .int .i64 0, .slice none 0 0, .int .i64 0, .int .i64 0, .int .i64 0, .int .i64 0, .int .i64 0, .int .i64 0, .int .i64 0, .int .i64 0, .int .i64 0, .int .i64 0, .int .i64 0, .int .i64 0, .int .i64 0, .int .i64 0, .int .i64 0, .int .i64 0, .int .i64 0, .int .i64 0] 37)) from Own.newAt (by simp)))
  rw [← hW]
  clear hW
  obtain ⟨P, eP⟩ : ∃ X, X = w.heap.size := ⟨_, rfl⟩
  rw [← eP] at HP ⊢
  have Pw : w.heap.size ≤ P := by omega
  clear eP
  have oP := HP.out
  have P0 := oP.at 0 _ rfl
  have Pf0 := oP.ok 0 (by simp)
  have Pl := oP.lt
  clear oP
  go_upto_region 2 with fail
  clear P0 Pf0 Pl
  rw [show (W0.setCell ⟨P, 0, none⟩ (.int .i64 k)) = W0.setCells P 0 [.int .i64 k] from rfl]
  have HP3 : Hid (Own P ([.int .i64 k, .slice none 0 0, .slice none 0 0, .slice none 0 0, .int .i64 0, .slice none 0 0, .int .i64 0, .int .i64 0, .int .i64 0, .int .i64 0, .int .i64 0, .int .i64 0, .int .i64 0, .int .i64 0, .int .i64 0, .int .i64 0, .int .i64 0, .int .i64 0, .int .i64 0, .int .i64 0, .int .i64 0, .int .i64 0, .int .i64 0, .int .i64 0]) (W0.setCells P 0 [.int .i64 k])) := Lib.hid (show Own P (over _ 0 [.int .i64 k]) _ from Own.part HP.out (by simp))
  have hB3 : Below w.heap.size w (W0.setCells P 0 [.int .i64 k]) := Below.setCells hB0 Pw _ _
  clear HP hB0
  generalize W0.setCells P 0 [.int .i64 k] = w3 at *
  go_upto_region 12 with fail
  go_wp2_with (first | (refine wpList_load_mid rfl 37 _ rfl P 0 rfl ([.int .i64 k, .slice none 0 0, .slice none 0 0, .slice none 0 0, .int .i64 0, .slice none 0 0, .int .i64 0, .int .i64 0, .int .i64 0, .int .i64 0, .int .i64 0, .int .i64 0, .int .i64 0, .int .i64 0, .int .i64 0, .int .i64 0, .int .i64 0, .int .i64 0, .int .i64 0, .int .i64 0, .int .i64 0, .int .i64 0, .int .i64 0, .int .i64 0]) _ HP3.out.cell Tryd.underlying37 rfl (by kernel_rfl) ?_) | (refine wpList_store_mid rfl 37 _ _ rfl P 0 ([.int .i64 k, .slice none 0 0, .slice none 0 0, .slice none 0 0, .int .i64 0, .slice none 0 0, .int .i64 0, .int .i64 0, .int .i64 0, .int .i64 0, .int .i64 0, .int .i64 0, .int .i64 0, .int .i64 0, .int .i64 0, .int .i64 0, .int .i64 0, .int .i64 0, .int .i64 0, .int .i64 0, .int .i64 0, .int .i64 0, .int .i64 0, .int .i64 0]).toArray rfl rfl HP3.out.free (by kernel_rfl) (by simp [Value.oneCell']) ?_; change wpList _ _ _ _ _ (w3.setCells P 0 ([.int .i64 k, .slice none 0 0, .slice none 0 0, .slice none 0 0, .int .i64 0, .slice none 0 0, .int .i64 0, .int .i64 0, .int .i64 0, .int .i64 0, .int .i64 0, .int .i64 0, .int .i64 0, .int .i64 0, .int .i64 0, .int .i64 0, .int .i64 0, .int .i64 0, .int .i64 0, .int .i64 0, .int .i64 0, .int .i64 0, .int .i64 0, .int .i64 0])); have HPz : Hid (Own P ([.int .i64 k, .slice none 0 0, .slice none 0 0, .slice none 0 0, .int .i64 0, .slice none 0 0, .int .i64 0, .int .i64 0, .int .i64 0, .int .i64 0, .int .i64 0, .int .i64 0, .int .i64 0, .int .i64 0, .int .i64 0, .int .i64 0, .int .i64 0, .int .i64 0, .int .i64 0, .int .i64 0, .int .i64 0, .int .i64 0, .int .i64 0, .int .i64 0]) (w3.setCells P 0 ([.int .i64 k, .slice none 0 0, .slice none 0 0, .slice none 0 0, .int .i64 0, .slice none 0 0, .int .i64 0, .int .i64 0, .int .i64 0, .int .i64 0, .int .i64 0, .int .i64 0, .int .i64 0, .int .i64 0, .int .i64 0, .int .i64 0, .int .i64 0, .int .i64 0, .int .i64 0, .int .i64 0, .int .i64 0, .int .i64 0, .int .i64 0, .int .i64 0]))) := Lib.hid (Own.store HP3.out rfl); have hBz : Below w.heap.size w (w3.setCells P 0 ([.int .i64 k, .slice none 0 0, .slice none 0 0, .slice none 0 0, .int .i64 0, .slice none 0 0, .int .i64 0, .int .i64 0, .int .i64 0, .int .i64 0, .int .i64 0, .int .i64 0, .int .i64 0, .int .i64 0, .int .i64 0, .int .i64 0, .int .i64 0, .int .i64 0, .int .i64 0, .int .i64 0, .int .i64 0, .int .i64 0, .int .i64 0, .int .i64 0])) := Below.setCells hB3 Pw _ _; generalize w3.setCells P 0 ([.int .i64 k, .slice none 0 0, .slice none 0 0, .slice none 0 0, .int .i64 0, .slice none 0 0, .int .i64 0, .int .i64 0, .int .i64 0, .int .i64 0, .int .i64 0, .int .i64 0, .int .i64 0, .int .i64 0, .int .i64 0, .int .i64 0, .int .i64 0, .int .i64 0, .int .i64 0, .int .i64 0, .int .i64 0, .int .i64 0, .int .i64 0, .int .i64 0]) = wz at *))
  have hL := run_loadVar_mid (P := Tryd.prog) _ P 0 37 ([.int .i64 k, .slice none 0 0, .slice none 0 0, .slice none 0 0, .int .i64 0, .slice none 0 0, .int .i64 0, .int .i64 0, .int .i64 0, .int .i64 0, .int .i64 0, .int .i64 0, .int .i64 0, .int .i64 0, .int .i64 0, .int .i64 0, .int .i64 0, .int .i64 0, .int .i64 0, .int .i64 0, .int .i64 0, .int .i64 0, .int .i64 0, .int .i64 0]) _ HPz.out.cell Tryd.underlying37 rfl (by kernel_rfl)
  exact bodyPost_ret (v := .tuple #[.agg ([.int .i64 k, .slice none 0 0, .slice none 0 0, .slice none 0 0, .int .i64 0, .slice none 0 0, .int .i64 0, .int .i64 0, .int .i64 0, .int .i64 0, .int .i64 0, .int .i64 0, .int .i64 0, .int .i64 0, .int .i64 0, .int .i64 0, .int .i64 0, .int .i64 0, .int .i64 0, .int .i64 0, .int .i64 0, .int .i64 0, .int .i64 0, .int .i64 0]).toArray, .int .i64 12]) (res_two Tryd.results36 rfl hL rfl) rfl ⟨rfl, hBz⟩
theorem few_kin (k : Int) : FewA (kinA k) := ⟨Nat.zero_le _, Nat.zero_le _, Nat.zero_le _, Nat.zero_le _⟩
theorem decA_0 {k : Int} (hk : k ≠ 1 ∧ k ≠ 2 ∧ k ≠ 3 ∧ k ≠ 4) (F : Nat → Int) (N : Nat) : decA k F N = kinA k := by
  unfold decA
  rw [if_neg hk.1, if_neg hk.2.1, if_neg hk.2.2.1, if_neg hk.2.2.2]
theorem decZ_0 {k : Int} (hk : k ≠ 1 ∧ k ≠ 2 ∧ k ≠ 3 ∧ k ≠ 4) (F : Nat → Int) (N : Nat) : decZ k F N = 12 := by
  unfold decZ
  rw [if_neg hk.1, if_neg hk.2.1, if_neg hk.2.2.1, if_neg hk.2.2.2]
/-- its lists are empty, or its numbers are zero -/
def LoneA (A : Ast) : Prop := (A.g = (fun _ => 0) ∧ A.l = (fun _ => 0)) ∨ (A.M.nv = 0 ∧ A.M.nu = 0 ∧ A.M.nt = 0 ∧ A.X.n = 0)
theorem fewM_dec {F : Nat → Int} {N : Nat} (hF : ∀ j, j < N → inB (F j)) {M : Msh} (h : DecM F N M) : M.nv ≤ 255 ∧ M.nu ≤ 255 ∧ M.nt ≤ 255 := by
  have a := (dcN_val hF 0).2; have b := (dcN_val hF 1).2
  by_cases e : decE F N = 0
  · obtain ⟨h1, h2, h3, _⟩ := h.yes e
    rw [h1, h2, h3]
    exact ⟨a, a, b⟩
  · obtain ⟨h1, h2, h3⟩ := h.no e
    rw [h1, h2, h3]
    decide
theorem decode_any (k : Int) (F : Nat → Int) (q : Option Addr) (N c : Nat) (hF : ∀ j, j < N → inB (F j)) (hN : N ≤ 900) (w : World) (hq : Byt w q N F) :
    Calls Tryd.prog 36 #[.int .i64 k, .slice q N c] w fun e w' => (∃ A, e = .returned (.tuple #[(.agg #[.int .i64 A.k, .slice A.M.qv A.M.nv A.M.cv, .slice A.M.qu A.M.nu A.M.cu, .slice A.M.qt A.M.nt A.M.ct, .int .i64 A.X.S, .slice A.X.q A.X.n A.X.c, .int .i64 (A.g 0), .int .i64 (A.g 1), .int .i64 (A.g 2), .int .i64 (A.g 3), .int .i64 (A.g 4), .int .i64 (A.l 0), .int .i64 (A.l 1), .int .i64 (A.l 2), .int .i64 (A.l 3), .int .i64 (A.l 4), .int .i64 (A.l 5), .int .i64 (A.l 6), .int .i64 (A.l 7), .int .i64 (A.l 8), .int .i64 (A.l 9), .int .i64 (A.l 10), .int .i64 (A.l 11), .int .i64 (A.l 12)]), .int .i64 (decZ k F N)]) ∧ AstAt A w' ∧ FewA A ∧ LoneA A ∧ (decZ k F N = 0 → EqA A (decA k F N))) ∧ Below w.heap.size w w' := by
  by_cases k1 : k = 1
  · subst k1
    refine (decode_1 F q N c hF hN w hq).mono ?_
    rintro e w' ⟨⟨M, rfl, hM, hD⟩, hb⟩
    have f := fewM_dec hF hD
    refine ⟨⟨⟨1, M, nilX, fun _ => 0, fun _ => 0⟩, rfl, ⟨hM, nilX_at _⟩, ⟨Nat.le_trans f.1 (by decide), Nat.le_trans f.2.1 (by decide), Nat.le_trans f.2.2 (by decide), Nat.zero_le _⟩, .inl ⟨rfl, rfl⟩, fun hz => ?_⟩, hb⟩
    obtain ⟨h1, h2, h3, h4, h5, h6⟩ := hD.yes hz
    obtain ⟨qv, nv, cv, V, qu, nu, cu, U, qt, nt, ct, R⟩ := M
    dsimp only at h1 h2 h3 h4 h5 h6
    subst h1 h2 h3 h4 h5 h6
    exact ⟨rfl, ⟨rfl, fun _ _ => rfl⟩, ⟨rfl, fun _ _ => rfl⟩, ⟨rfl, fun _ _ => rfl⟩, rfl, ⟨rfl, fun _ _ => rfl⟩, fun _ _ => rfl, fun _ _ => rfl⟩
  · by_cases k2 : k = 2
    · subst k2
      refine (decode_2 F q N c hF hN w hq).mono ?_
      rintro e w' ⟨⟨M, rfl, hM, hD⟩, hb⟩
      refine ⟨⟨⟨2, nilM, M, fun _ => 0, fun _ => 0⟩, rfl, ⟨nilM_at _, hM⟩, ⟨Nat.zero_le _, Nat.zero_le _, Nat.zero_le _, by have := dec_n hD; show M.n ≤ _; omega⟩, .inl ⟨rfl, rfl⟩, fun hz => ?_⟩, hb⟩
      exact ⟨rfl, ⟨rfl, fun _ _ => rfl⟩, ⟨rfl, fun _ _ => rfl⟩, ⟨rfl, fun _ _ => rfl⟩, hD.S, ⟨hD.n, hD.f⟩, fun _ _ => rfl, fun _ _ => rfl⟩
    · by_cases k3 : k = 3
      · subst k3
        refine (decode_3 F q N c hF hN w hq).mono ?_
        rintro e w' ⟨rfl, hb⟩
        exact ⟨⟨⟨3, nilM, nilX, decG F N, fun _ => 0⟩, rfl, ⟨nilM_at _, nilX_at _⟩, ⟨Nat.zero_le _, Nat.zero_le _, Nat.zero_le _, Nat.zero_le _⟩, .inr ⟨rfl, rfl, rfl, rfl⟩, fun hz => EqA.refl _⟩, hb⟩
      · by_cases k4 : k = 4
        · subst k4
          refine (decode_4 F q N c hF hN w hq).mono ?_
          rintro e w' ⟨rfl, hb⟩
          exact ⟨⟨⟨4, nilM, nilX, fun _ => 0, decLt F N⟩, rfl, ⟨nilM_at _, nilX_at _⟩, ⟨Nat.zero_le _, Nat.zero_le _, Nat.zero_le _, Nat.zero_le _⟩, .inr ⟨rfl, rfl, rfl, rfl⟩, fun hz => EqA.refl _⟩, hb⟩
        · refine (decode_0 k ⟨k1, k2, k3, k4⟩ q N c w).mono ?_
          rintro e w' ⟨rfl, hb⟩
          rw [decZ_0 ⟨k1, k2, k3, k4⟩, decA_0 ⟨k1, k2, k3, k4⟩]
          exact ⟨⟨kinA k, rfl, kinA_at _ _, few_kin k, .inl ⟨rfl, rfl⟩, fun hz => EqA.refl _⟩, hb⟩
theorem has_keep {b o Q : Nat} {cs ds vs : List Value} {W : World} (h : Has b o cs W) (hQ : Own Q ds W) (hl : vs.length = ds.length) (hx : ∀ j, j < cs.length → o + j < vs.length → b = Q → vs[o + j]? = cs[j]?) : Has b o cs (W.setCells Q 0 vs) where
  lt := by rw [size_setCells]; exact h.lt
  cell := by
    by_cases e : b = Q
    · intro j v hv
      have h1 := h.cell j v hv
      have hj := (List.getElem?_eq_some_iff.1 hv).1
      subst e
      by_cases c : o + j < vs.length
      · have := (Own.store (vs := vs) hQ hl).at (o + j) v ((hx j hj c rfl).trans hv)
        exact this
      · rw [World.cell?_setCells_out b vs 0 W ⟨b, o + j, none⟩ (fun _ _ => .inr (by show 0 + vs.length ≤ o + j; omega))]
        exact h1
    · exact World.rangeAt_setCells_apart h.cell _ _ _ (.inl e)
theorem zer_at (i : Nat) (h6 : 6 ≤ i) (h : i < 24) : ([.int .i64 0, .slice none 0 0, .slice none 0 0, .slice none 0 0, .int .i64 0, .slice none 0 0, .int .i64 0, .int .i64 0, .int .i64 0, .int .i64 0, .int .i64 0, .int .i64 0, .int .i64 0, .int .i64 0, .int .i64 0, .int .i64 0, .int .i64 0, .int .i64 0, .int .i64 0, .int .i64 0, .int .i64 0, .int .i64 0, .int .i64 0, .int .i64 0] : List Value)[i]? = some (.int .i64 0) := by
  match i, h6, h with
  | 6, _, _ => rfl
  | 7, _, _ => rfl
  | 8, _, _ => rfl
  | 9, _, _ => rfl
  | 10, _, _ => rfl
  | 11, _, _ => rfl
  | 12, _, _ => rfl
  | 13, _, _ => rfl
  | 14, _, _ => rfl
  | 15, _, _ => rfl
  | 16, _, _ => rfl
  | 17, _, _ => rfl
  | 18, _, _ => rfl
  | 19, _, _ => rfl
  | 20, _, _ => rfl
  | 21, _, _ => rfl
  | 22, _, _ => rfl
  | 23, _, _ => rfl
  | i + 24, _, h => exact absurd h (by omega)
theorem ast_at (A : Ast) (hg : A.g = (fun _ => 0)) (hl : A.l = (fun _ => 0)) (i : Nat) (h6 : 6 ≤ i) (h : i < 24) : ([.int .i64 A.k, .slice A.M.qv A.M.nv A.M.cv, .slice A.M.qu A.M.nu A.M.cu, .slice A.M.qt A.M.nt A.M.ct, .int .i64 A.X.S, .slice A.X.q A.X.n A.X.c, .int .i64 (A.g 0), .int .i64 (A.g 1), .int .i64 (A.g 2), .int .i64 (A.g 3), .int .i64 (A.g 4), .int .i64 (A.l 0), .int .i64 (A.l 1), .int .i64 (A.l 2), .int .i64 (A.l 3), .int .i64 (A.l 4), .int .i64 (A.l 5), .int .i64 (A.l 6), .int .i64 (A.l 7), .int .i64 (A.l 8), .int .i64 (A.l 9), .int .i64 (A.l 10), .int .i64 (A.l 11), .int .i64 (A.l 12)] : List Value)[i]? = some (.int .i64 0) := by
  rw [hg, hl]
  match i, h6, h with
  | 6, _, _ => rfl
  | 7, _, _ => rfl
  | 8, _, _ => rfl
  | 9, _, _ => rfl
  | 10, _, _ => rfl
  | 11, _, _ => rfl
  | 12, _, _ => rfl
  | 13, _, _ => rfl
  | 14, _, _ => rfl
  | 15, _, _ => rfl
  | 16, _, _ => rfl
  | 17, _, _ => rfl
  | 18, _, _ => rfl
  | 19, _, _ => rfl
  | 20, _, _ => rfl
  | 21, _, _ => rfl
  | 22, _, _ => rfl
  | 23, _, _ => rfl
  | i + 24, _, h => exact absurd h (by omega)
theorem put_nms {A : Ast} (hg : A.g = (fun _ => 0)) (hl : A.l = (fun _ => 0)) {s n R : Nat} {q : Option Addr} {f : Nat → Int} {W : World} (hs : 2 ≤ s) (h : NmS W s q n f) (hR : Own R [.int .i64 0, .slice none 0 0, .slice none 0 0, .slice none 0 0, .int .i64 0, .slice none 0 0, .int .i64 0, .int .i64 0, .int .i64 0, .int .i64 0, .int .i64 0, .int .i64 0, .int .i64 0, .int .i64 0, .int .i64 0, .int .i64 0, .int .i64 0, .int .i64 0, .int .i64 0, .int .i64 0, .int .i64 0, .int .i64 0, .int .i64 0, .int .i64 0] W) : NmS (W.setCells R 0 [.int .i64 A.k, .slice A.M.qv A.M.nv A.M.cv, .slice A.M.qu A.M.nu A.M.cu, .slice A.M.qt A.M.nt A.M.ct, .int .i64 A.X.S, .slice A.X.q A.X.n A.X.c, .int .i64 (A.g 0), .int .i64 (A.g 1), .int .i64 (A.g 2), .int .i64 (A.g 3), .int .i64 (A.g 4), .int .i64 (A.l 0), .int .i64 (A.l 1), .int .i64 (A.l 2), .int .i64 (A.l 3), .int .i64 (A.l 4), .int .i64 (A.l 5), .int .i64 (A.l 6), .int .i64 (A.l 7), .int .i64 (A.l 8), .int .i64 (A.l 9), .int .i64 (A.l 10), .int .i64 (A.l 11), .int .i64 (A.l 12)]) s q n f := by
  rcases h with h0 | ⟨b, o, e, hh⟩
  · exact .inl h0
  by_cases n0 : n = 0
  · exact .inl n0
  refine .inr ⟨b, o, e, has_keep hh hR rfl fun j hj h1 e2 => ?_⟩
  subst e2
  rw [nums_length] at hj
  have h1 : o + j < 24 := h1
  have h2 : 2 ≤ n * s := Nat.le_trans hs (Nat.le_mul_of_pos_left s (by omega))
  have t1 := hR.at 1 _ rfl; have t2 := hR.at 2 _ rfl; have t3 := hR.at 3 _ rfl; have t5 := hR.at 5 _ rfl
  have no : ∀ i, i < n * s → o + i ≠ 1 ∧ o + i ≠ 2 ∧ o + i ≠ 3 ∧ o + i ≠ 5 := fun i hi => by
    have a2 := hh.at i _ (nums_at .i64 f hi)
    refine ⟨fun e3 => ?_, fun e3 => ?_, fun e3 => ?_, fun e3 => ?_⟩
    · rw [e3, t1] at a2; cases a2
    · rw [e3, t2] at a2; cases a2
    · rw [e3, t3] at a2; cases a2
    · rw [e3, t5] at a2; cases a2
  have a := no j hj
  have h6 : 6 ≤ o + j := by
    by_cases hj0 : j = 0
    · have b := no 1 (by omega)
      omega
    · have b := no (j - 1) (by omega)
      by_cases hj1 : j + 1 < n * s
      · have c := no (j + 1) hj1
        omega
      · omega
  have a2 := hh.at j _ (nums_at .i64 f hj)
  rw [hR.at _ _ (zer_at _ h6 h1)] at a2
  rw [ast_at A hg hl _ h6 h1, nums_at .i64 f hj, a2]
theorem AstAt.put {A : Ast} (hA : LoneA A) {R : Nat} {W : World} (h : AstAt A W) (hR : Own R [.int .i64 0, .slice none 0 0, .slice none 0 0, .slice none 0 0, .int .i64 0, .slice none 0 0, .int .i64 0, .int .i64 0, .int .i64 0, .int .i64 0, .int .i64 0, .int .i64 0, .int .i64 0, .int .i64 0, .int .i64 0, .int .i64 0, .int .i64 0, .int .i64 0, .int .i64 0, .int .i64 0, .int .i64 0, .int .i64 0, .int .i64 0, .int .i64 0] W) : AstAt A (W.setCells R 0 [.int .i64 A.k, .slice A.M.qv A.M.nv A.M.cv, .slice A.M.qu A.M.nu A.M.cu, .slice A.M.qt A.M.nt A.M.ct, .int .i64 A.X.S, .slice A.X.q A.X.n A.X.c, .int .i64 (A.g 0), .int .i64 (A.g 1), .int .i64 (A.g 2), .int .i64 (A.g 3), .int .i64 (A.g 4), .int .i64 (A.l 0), .int .i64 (A.l 1), .int .i64 (A.l 2), .int .i64 (A.l 3), .int .i64 (A.l 4), .int .i64 (A.l 5), .int .i64 (A.l 6), .int .i64 (A.l 7), .int .i64 (A.l 8), .int .i64 (A.l 9), .int .i64 (A.l 10), .int .i64 (A.l 11), .int .i64 (A.l 12)]) := by
  rcases hA with ⟨hg, hl⟩ | ⟨e1, e2, e3, e4⟩
  · exact ⟨⟨put_nms hg hl (by decide) h.m.v hR, put_nms hg hl (by decide) h.m.u hR, put_nms hg hl (by decide) h.m.t hR, h.m.lv, h.m.lu, h.m.lt, h.m.mv, h.m.mu, h.m.mt⟩, put_nms hg hl (by decide) h.x.t hR, h.x.l, h.x.m⟩
  · exact ⟨⟨.inl e1, .inl e2, .inl e3, h.m.lv, h.m.lu, h.m.lt, h.m.mv, h.m.mu, h.m.mt⟩, .inl e4, h.x.l, h.x.m⟩
set_option maxHeartbeats 16000000 in
theorem ADecode_any (k : Int) (F : Nat → Int) (q : Option Addr) (N c : Nat) (hF : ∀ j, j < N → inB (F j)) (hN : N ≤ 900) (w : World) (hq : Byt w q N F) (hg : Has 0 0 CapL w) :
    Calls Tryd.prog 19 #[.int .i64 k, .slice q N c] w fun e w' => (∃ A, e = .returned (.tuple #[(.agg #[.int .i64 A.k, .slice A.M.qv A.M.nv A.M.cv, .slice A.M.qu A.M.nu A.M.cu, .slice A.M.qt A.M.nt A.M.ct, .int .i64 A.X.S, .slice A.X.q A.X.n A.X.c, .int .i64 (A.g 0), .int .i64 (A.g 1), .int .i64 (A.g 2), .int .i64 (A.g 3), .int .i64 (A.g 4), .int .i64 (A.l 0), .int .i64 (A.l 1), .int .i64 (A.l 2), .int .i64 (A.l 3), .int .i64 (A.l 4), .int .i64 (A.l 5), .int .i64 (A.l 6), .int .i64 (A.l 7), .int .i64 (A.l 8), .int .i64 (A.l 9), .int .i64 (A.l 10), .int .i64 (A.l 11), .int .i64 (A.l 12)]), .int .i64 (decEA k F N)]) ∧ AstAt A w' ∧ FewA A ∧ (decEA k F N = 0 → EqA A (decA k F N)) ∧ (decEA k F N ≠ 0 → EqA A (kinA 0))) ∧ Below w.heap.size w w' := by
  have HQ := Lib.hid hq; have GG := Lib.hid hg
  have CON := Lib.hid (fun w h => decode_any k F q N c hF hN w h)
  have CK := Lib.hid (fun A (hf : FewA A) w h h2 => ACheck_any A hf w h h2)
  have EZ : Hid (decEA k F N = if decZ k F N = 0 then chkA (decA k F N) else decZ k F N) := Lib.hid rfl
  obtain ⟨y, ey⟩ : ∃ y, decEA k F N = y := ⟨_, rfl⟩
  rw [ey] at EZ ⊢
  clear hF hN hq hg ey
  go_enter Tryd.func19, Tryd.ntmps19
  go_upto_region 1 with fail
  obtain ⟨W0, hW⟩ : ∃ W0, W0 = (w.alloc (.cells #[.int .i64 0, .slice none 0 0, .slice none 0 0, .slice none 0 0, .int .i64 0, .slice none 0 0, .int .i64 0, .int .i64 0, .int .i64 0, .int .i64 0, .int .i64 0, .int .i64 0, .int .i64 0, .int .i64 0, .int .i64 0, .int .i64 0, .int .i64 0, .int .i64 0, .int .i64 0, .int .i64 0, .int .i64 0, .int .i64 0, .int .i64 0, .int .i64 0] 37)) := ⟨_, rfl⟩
  have hB0 : Below w.heap.size w W0 := hW ▸ (Below.al (Below.refl _ _))
  have HR : Hid (Own w.heap.size ([.int .i64 0, .slice none 0 0, .slice none 0 0, .slice none 0 0, .int .i64 0, .slice none 0 0, .int .i64 0, .int .i64 0, .int .i64 0, .int .i64 0, .int .i64 0, .int .i64 0, .int .i64 0, .int .i64 0, .int .i64 0, .int .i64 0, .int .i64 0, .int .i64 0, .int .i64 0, .int .i64 0, .int .i64 0, .int .i64 0, .int .i64 0, .int .i64 0]) W0) := Lib.hid (hW ▸ (show Own w.heap.size ([.int .i64 0, .slice none 0 0, .slice none 0 0, .slice none 0 0, .int .i64 0, .slice none 0 0, .int .i64 0, .int .i64 0, .int .i64 0, .int .i64 0, .int .i64 0, .int .i64 0, .int .i64 0, .int .i64 0, .int .i64 0, .int .i64 0, .int .i64 0, .int .i64 0, .int .i64 0, .int .i64 0, .int .i64 0, .int .i64 0, .int .i64 0, .int .i64 0]) (w.alloc (.cells #[.int .i64 0, .slice none 0 0, .slice none 0 0, .slice none 0 0, .int .i64 0, .slice none 0 0, .int .i64 0, .int .i64 0, .int .i64 0, .int .i64 0, .int .i64 0, .int .i64 0, .int .i64 0, .int .i64 0, .int .i64 0, .int .i64 0, .int .i64 0, .int .i64 0, .int .i64 0, .int .i64 0, .int .i64 0, .int .i64 0, .int .i64 0, .int .i64 0] 37)) from Own.newAt (by simp)))
  rw [← hW]
  clear hW
  obtain ⟨R, eR⟩ : ∃ X, X = w.heap.size := ⟨_, rfl⟩
  rw [← eR] at HR ⊢
  have Rw : w.heap.size ≤ R := by omega
  clear eR
  go_wp2_with (fail)
  go_at_call 36
  refine (CON.out _ (HQ.out.later hB0)).mono ?_
  rintro e w1 ⟨⟨A, rfl, hA, hf, hl, hE⟩, hb⟩
  have HR1 := Lib.hid (HR.out.later hb); have hB1 := Below.go hB0 hb
  have AA := Lib.hid hA; have FF := Lib.hid hf; have LL := Lib.hid hl; have EE := Lib.hid hE
  have G1 := Lib.hid (GG.out.later hB1)
  clear hA hf hl hE hb HQ GG HR hB0 CON
  generalize decZ k F N = z at *
  go_upto_region 2 with (refine wpList_store_mid rfl 37 _ _ rfl _ 0 #[.int .i64 A.k, .slice A.M.qv A.M.nv A.M.cv, .slice A.M.qu A.M.nu A.M.cu, .slice A.M.qt A.M.nt A.M.ct, .int .i64 A.X.S, .slice A.X.q A.X.n A.X.c, .int .i64 (A.g 0), .int .i64 (A.g 1), .int .i64 (A.g 2), .int .i64 (A.g 3), .int .i64 (A.g 4), .int .i64 (A.l 0), .int .i64 (A.l 1), .int .i64 (A.l 2), .int .i64 (A.l 3), .int .i64 (A.l 4), .int .i64 (A.l 5), .int .i64 (A.l 6), .int .i64 (A.l 7), .int .i64 (A.l 8), .int .i64 (A.l 9), .int .i64 (A.l 10), .int .i64 (A.l 11), .int .i64 (A.l 12)] rfl rfl (there_newn (cs := [.int .i64 0, .slice none 0 0, .slice none 0 0, .slice none 0 0, .int .i64 0, .slice none 0 0, .int .i64 0, .int .i64 0, .int .i64 0, .int .i64 0, .int .i64 0, .int .i64 0, .int .i64 0, .int .i64 0, .int .i64 0, .int .i64 0, .int .i64 0, .int .i64 0, .int .i64 0, .int .i64 0, .int .i64 0, .int .i64 0, .int .i64 0, .int .i64 0]) (by simp)) (by kernel_rfl) (by simp [Value.oneCell']) ?_; (obtain ⟨W2, hW2⟩ : ∃ W, W = (w1.alloc (.cells #[.int .i64 0, .slice none 0 0, .slice none 0 0, .slice none 0 0, .int .i64 0, .slice none 0 0, .int .i64 0, .int .i64 0, .int .i64 0, .int .i64 0, .int .i64 0, .int .i64 0, .int .i64 0, .int .i64 0, .int .i64 0, .int .i64 0, .int .i64 0, .int .i64 0, .int .i64 0, .int .i64 0, .int .i64 0, .int .i64 0, .int .i64 0, .int .i64 0] 37)).setCells w1.heap.size 0 ([.int .i64 A.k, .slice A.M.qv A.M.nv A.M.cv, .slice A.M.qu A.M.nu A.M.cu, .slice A.M.qt A.M.nt A.M.ct, .int .i64 A.X.S, .slice A.X.q A.X.n A.X.c, .int .i64 (A.g 0), .int .i64 (A.g 1), .int .i64 (A.g 2), .int .i64 (A.g 3), .int .i64 (A.g 4), .int .i64 (A.l 0), .int .i64 (A.l 1), .int .i64 (A.l 2), .int .i64 (A.l 3), .int .i64 (A.l 4), .int .i64 (A.l 5), .int .i64 (A.l 6), .int .i64 (A.l 7), .int .i64 (A.l 8), .int .i64 (A.l 9), .int .i64 (A.l 10), .int .i64 (A.l 11), .int .i64 (A.l 12)]) := ⟨_, rfl⟩); have hbx : Below w1.heap.size w1 W2 := hW2 ▸ Below.setCells (Below.al (Below.refl _ _)) (Nat.le_refl _) _ _; have HQ : Hid (Own w1.heap.size ([.int .i64 A.k, .slice A.M.qv A.M.nv A.M.cv, .slice A.M.qu A.M.nu A.M.cu, .slice A.M.qt A.M.nt A.M.ct, .int .i64 A.X.S, .slice A.X.q A.X.n A.X.c, .int .i64 (A.g 0), .int .i64 (A.g 1), .int .i64 (A.g 2), .int .i64 (A.g 3), .int .i64 (A.g 4), .int .i64 (A.l 0), .int .i64 (A.l 1), .int .i64 (A.l 2), .int .i64 (A.l 3), .int .i64 (A.l 4), .int .i64 (A.l 5), .int .i64 (A.l 6), .int .i64 (A.l 7), .int .i64 (A.l 8), .int .i64 (A.l 9), .int .i64 (A.l 10), .int .i64 (A.l 11), .int .i64 (A.l 12)]) W2) := Lib.hid (hW2 ▸ Own.store (Own.new _ [.int .i64 0, .slice none 0 0, .slice none 0 0, .slice none 0 0, .int .i64 0, .slice none 0 0, .int .i64 0, .int .i64 0, .int .i64 0, .int .i64 0, .int .i64 0, .int .i64 0, .int .i64 0, .int .i64 0, .int .i64 0, .int .i64 0, .int .i64 0, .int .i64 0, .int .i64 0, .int .i64 0, .int .i64 0, .int .i64 0, .int .i64 0, .int .i64 0] _) rfl); change wpList _ _ _ _ _ ((w1.alloc (.cells #[.int .i64 0, .slice none 0 0, .slice none 0 0, .slice none 0 0, .int .i64 0, .slice none 0 0, .int .i64 0, .int .i64 0, .int .i64 0, .int .i64 0, .int .i64 0, .int .i64 0, .int .i64 0, .int .i64 0, .int .i64 0, .int .i64 0, .int .i64 0, .int .i64 0, .int .i64 0, .int .i64 0, .int .i64 0, .int .i64 0, .int .i64 0, .int .i64 0] 37)).setCells w1.heap.size 0 ([.int .i64 A.k, .slice A.M.qv A.M.nv A.M.cv, .slice A.M.qu A.M.nu A.M.cu, .slice A.M.qt A.M.nt A.M.ct, .int .i64 A.X.S, .slice A.X.q A.X.n A.X.c, .int .i64 (A.g 0), .int .i64 (A.g 1), .int .i64 (A.g 2), .int .i64 (A.g 3), .int .i64 (A.g 4), .int .i64 (A.l 0), .int .i64 (A.l 1), .int .i64 (A.l 2), .int .i64 (A.l 3), .int .i64 (A.l 4), .int .i64 (A.l 5), .int .i64 (A.l 6), .int .i64 (A.l 7), .int .i64 (A.l 8), .int .i64 (A.l 9), .int .i64 (A.l 10), .int .i64 (A.l 11), .int .i64 (A.l 12)])); rw [← hW2]; clear hW2)
  obtain ⟨Q, eQ⟩ : ∃ X, X = w1.heap.size := ⟨_, rfl⟩
  rw [← eQ] at HQ ⊢
  clear eQ
  have hB2 := Below.go hB1 hbx
  have HR2 := Lib.hid (HR1.out.later hbx); have A2 := Lib.hid (AA.out.later hbx); have G2 := Lib.hid (G1.out.later hbx)
  clear HR1 hB1 hbx AA G1
  by_cases hz : z = 0
  · subst hz
    have EA_ := Lib.hid (EE.out rfl)
    rw [if_pos rfl, ← chkA_congr EA_.out] at EZ
    go_wp2_with (refine wpList_load_mid rfl 37 _ rfl Q 0 rfl ([.int .i64 A.k, .slice A.M.qv A.M.nv A.M.cv, .slice A.M.qu A.M.nu A.M.cu, .slice A.M.qt A.M.nt A.M.ct, .int .i64 A.X.S, .slice A.X.q A.X.n A.X.c, .int .i64 (A.g 0), .int .i64 (A.g 1), .int .i64 (A.g 2), .int .i64 (A.g 3), .int .i64 (A.g 4), .int .i64 (A.l 0), .int .i64 (A.l 1), .int .i64 (A.l 2), .int .i64 (A.l 3), .int .i64 (A.l 4), .int .i64 (A.l 5), .int .i64 (A.l 6), .int .i64 (A.l 7), .int .i64 (A.l 8), .int .i64 (A.l 9), .int .i64 (A.l 10), .int .i64 (A.l 11), .int .i64 (A.l 12)]) _ HQ.out.cell Tryd.underlying37 rfl (by kernel_rfl) ?_)
    go_at_call 13
    refine (CK.out A FF.out _ A2.out G2.out).mono ?_
    rintro e w3 ⟨rfl, hb⟩
    have HR3 := Lib.hid (HR2.out.later hb); have A3 := Lib.hid (A2.out.later hb); have HQ3 := Lib.hid (HQ.out.later hb); have hBv := Below.go hB2 hb
    clear HR2 A2 HQ hB2 hb G2 CK
    rw [← EZ.out]
    clear EZ
    by_cases hy : y = 0
    · subst hy
      go_wp2_with (first | (refine wpList_load_mid rfl 37 _ rfl Q 0 rfl ([.int .i64 A.k, .slice A.M.qv A.M.nv A.M.cv, .slice A.M.qu A.M.nu A.M.cu, .slice A.M.qt A.M.nt A.M.ct, .int .i64 A.X.S, .slice A.X.q A.X.n A.X.c, .int .i64 (A.g 0), .int .i64 (A.g 1), .int .i64 (A.g 2), .int .i64 (A.g 3), .int .i64 (A.g 4), .int .i64 (A.l 0), .int .i64 (A.l 1), .int .i64 (A.l 2), .int .i64 (A.l 3), .int .i64 (A.l 4), .int .i64 (A.l 5), .int .i64 (A.l 6), .int .i64 (A.l 7), .int .i64 (A.l 8), .int .i64 (A.l 9), .int .i64 (A.l 10), .int .i64 (A.l 11), .int .i64 (A.l 12)]) _ HQ3.out.cell Tryd.underlying37 rfl (by kernel_rfl) ?_) | (refine wpList_store_mid rfl 37 _ _ rfl R 0 ([.int .i64 A.k, .slice A.M.qv A.M.nv A.M.cv, .slice A.M.qu A.M.nu A.M.cu, .slice A.M.qt A.M.nt A.M.ct, .int .i64 A.X.S, .slice A.X.q A.X.n A.X.c, .int .i64 (A.g 0), .int .i64 (A.g 1), .int .i64 (A.g 2), .int .i64 (A.g 3), .int .i64 (A.g 4), .int .i64 (A.l 0), .int .i64 (A.l 1), .int .i64 (A.l 2), .int .i64 (A.l 3), .int .i64 (A.l 4), .int .i64 (A.l 5), .int .i64 (A.l 6), .int .i64 (A.l 7), .int .i64 (A.l 8), .int .i64 (A.l 9), .int .i64 (A.l 10), .int .i64 (A.l 11), .int .i64 (A.l 12)]).toArray rfl rfl HR3.out.free (by kernel_rfl) (by simp [Value.oneCell']) ?_; change wpList _ _ _ _ _ (w3.setCells R 0 ([.int .i64 A.k, .slice A.M.qv A.M.nv A.M.cv, .slice A.M.qu A.M.nu A.M.cu, .slice A.M.qt A.M.nt A.M.ct, .int .i64 A.X.S, .slice A.X.q A.X.n A.X.c, .int .i64 (A.g 0), .int .i64 (A.g 1), .int .i64 (A.g 2), .int .i64 (A.g 3), .int .i64 (A.g 4), .int .i64 (A.l 0), .int .i64 (A.l 1), .int .i64 (A.l 2), .int .i64 (A.l 3), .int .i64 (A.l 4), .int .i64 (A.l 5), .int .i64 (A.l 6), .int .i64 (A.l 7), .int .i64 (A.l 8), .int .i64 (A.l 9), .int .i64 (A.l 10), .int .i64 (A.l 11), .int .i64 (A.l 12)])); have HRz : Hid (Own R ([.int .i64 A.k, .slice A.M.qv A.M.nv A.M.cv, .slice A.M.qu A.M.nu A.M.cu, .slice A.M.qt A.M.nt A.M.ct, .int .i64 A.X.S, .slice A.X.q A.X.n A.X.c, .int .i64 (A.g 0), .int .i64 (A.g 1), .int .i64 (A.g 2), .int .i64 (A.g 3), .int .i64 (A.g 4), .int .i64 (A.l 0), .int .i64 (A.l 1), .int .i64 (A.l 2), .int .i64 (A.l 3), .int .i64 (A.l 4), .int .i64 (A.l 5), .int .i64 (A.l 6), .int .i64 (A.l 7), .int .i64 (A.l 8), .int .i64 (A.l 9), .int .i64 (A.l 10), .int .i64 (A.l 11), .int .i64 (A.l 12)]) (w3.setCells R 0 ([.int .i64 A.k, .slice A.M.qv A.M.nv A.M.cv, .slice A.M.qu A.M.nu A.M.cu, .slice A.M.qt A.M.nt A.M.ct, .int .i64 A.X.S, .slice A.X.q A.X.n A.X.c, .int .i64 (A.g 0), .int .i64 (A.g 1), .int .i64 (A.g 2), .int .i64 (A.g 3), .int .i64 (A.g 4), .int .i64 (A.l 0), .int .i64 (A.l 1), .int .i64 (A.l 2), .int .i64 (A.l 3), .int .i64 (A.l 4), .int .i64 (A.l 5), .int .i64 (A.l 6), .int .i64 (A.l 7), .int .i64 (A.l 8), .int .i64 (A.l 9), .int .i64 (A.l 10), .int .i64 (A.l 11), .int .i64 (A.l 12)]))) := Lib.hid (Own.store HR3.out rfl); have hBz : Below w.heap.size w (w3.setCells R 0 ([.int .i64 A.k, .slice A.M.qv A.M.nv A.M.cv, .slice A.M.qu A.M.nu A.M.cu, .slice A.M.qt A.M.nt A.M.ct, .int .i64 A.X.S, .slice A.X.q A.X.n A.X.c, .int .i64 (A.g 0), .int .i64 (A.g 1), .int .i64 (A.g 2), .int .i64 (A.g 3), .int .i64 (A.g 4), .int .i64 (A.l 0), .int .i64 (A.l 1), .int .i64 (A.l 2), .int .i64 (A.l 3), .int .i64 (A.l 4), .int .i64 (A.l 5), .int .i64 (A.l 6), .int .i64 (A.l 7), .int .i64 (A.l 8), .int .i64 (A.l 9), .int .i64 (A.l 10), .int .i64 (A.l 11), .int .i64 (A.l 12)])) := Below.setCells hBv Rw _ _; have Az := Lib.hid (AstAt.put LL.out A3.out HR3.out); generalize w3.setCells R 0 ([.int .i64 A.k, .slice A.M.qv A.M.nv A.M.cv, .slice A.M.qu A.M.nu A.M.cu, .slice A.M.qt A.M.nt A.M.ct, .int .i64 A.X.S, .slice A.X.q A.X.n A.X.c, .int .i64 (A.g 0), .int .i64 (A.g 1), .int .i64 (A.g 2), .int .i64 (A.g 3), .int .i64 (A.g 4), .int .i64 (A.l 0), .int .i64 (A.l 1), .int .i64 (A.l 2), .int .i64 (A.l 3), .int .i64 (A.l 4), .int .i64 (A.l 5), .int .i64 (A.l 6), .int .i64 (A.l 7), .int .i64 (A.l 8), .int .i64 (A.l 9), .int .i64 (A.l 10), .int .i64 (A.l 11), .int .i64 (A.l 12)]) = wz at *))
      have hL := run_loadVar_mid (P := Tryd.prog) _ R 0 37 ([.int .i64 A.k, .slice A.M.qv A.M.nv A.M.cv, .slice A.M.qu A.M.nu A.M.cu, .slice A.M.qt A.M.nt A.M.ct, .int .i64 A.X.S, .slice A.X.q A.X.n A.X.c, .int .i64 (A.g 0), .int .i64 (A.g 1), .int .i64 (A.g 2), .int .i64 (A.g 3), .int .i64 (A.g 4), .int .i64 (A.l 0), .int .i64 (A.l 1), .int .i64 (A.l 2), .int .i64 (A.l 3), .int .i64 (A.l 4), .int .i64 (A.l 5), .int .i64 (A.l 6), .int .i64 (A.l 7), .int .i64 (A.l 8), .int .i64 (A.l 9), .int .i64 (A.l 10), .int .i64 (A.l 11), .int .i64 (A.l 12)]) _ HRz.out.cell Tryd.underlying37 rfl (by kernel_rfl)
      exact bodyPost_ret (v := .tuple #[.agg ([.int .i64 A.k, .slice A.M.qv A.M.nv A.M.cv, .slice A.M.qu A.M.nu A.M.cu, .slice A.M.qt A.M.nt A.M.ct, .int .i64 A.X.S, .slice A.X.q A.X.n A.X.c, .int .i64 (A.g 0), .int .i64 (A.g 1), .int .i64 (A.g 2), .int .i64 (A.g 3), .int .i64 (A.g 4), .int .i64 (A.l 0), .int .i64 (A.l 1), .int .i64 (A.l 2), .int .i64 (A.l 3), .int .i64 (A.l 4), .int .i64 (A.l 5), .int .i64 (A.l 6), .int .i64 (A.l 7), .int .i64 (A.l 8), .int .i64 (A.l 9), .int .i64 (A.l 10), .int .i64 (A.l 11), .int .i64 (A.l 12)]).toArray, .int .i64 0]) (res_two Tryd.results19 rfl hL rfl) rfl ⟨⟨A, rfl, Az.out, FF.out, by first | exact ⟨fun _ => EA_.out, fun h => absurd rfl h⟩ | exact EA_.out⟩, hBz⟩
    · have hd : (y != 0) = true := by simpa using hy
      go_wp2_with (refine wpList_store_mid rfl 37 _ _ rfl R 0 ([.int .i64 0, .slice none 0 0, .slice none 0 0, .slice none 0 0, .int .i64 0, .slice none 0 0, .int .i64 0, .int .i64 0, .int .i64 0, .int .i64 0, .int .i64 0, .int .i64 0, .int .i64 0, .int .i64 0, .int .i64 0, .int .i64 0, .int .i64 0, .int .i64 0, .int .i64 0, .int .i64 0, .int .i64 0, .int .i64 0, .int .i64 0, .int .i64 0]).toArray rfl rfl HR3.out.free (by kernel_rfl) (by simp [Value.oneCell']) ?_; change wpList _ _ _ _ _ (w3.setCells R 0 ([.int .i64 0, .slice none 0 0, .slice none 0 0, .slice none 0 0, .int .i64 0, .slice none 0 0, .int .i64 0, .int .i64 0, .int .i64 0, .int .i64 0, .int .i64 0, .int .i64 0, .int .i64 0, .int .i64 0, .int .i64 0, .int .i64 0, .int .i64 0, .int .i64 0, .int .i64 0, .int .i64 0, .int .i64 0, .int .i64 0, .int .i64 0, .int .i64 0])); have HRz : Hid (Own R ([.int .i64 0, .slice none 0 0, .slice none 0 0, .slice none 0 0, .int .i64 0, .slice none 0 0, .int .i64 0, .int .i64 0, .int .i64 0, .int .i64 0, .int .i64 0, .int .i64 0, .int .i64 0, .int .i64 0, .int .i64 0, .int .i64 0, .int .i64 0, .int .i64 0, .int .i64 0, .int .i64 0, .int .i64 0, .int .i64 0, .int .i64 0, .int .i64 0]) (w3.setCells R 0 ([.int .i64 0, .slice none 0 0, .slice none 0 0, .slice none 0 0, .int .i64 0, .slice none 0 0, .int .i64 0, .int .i64 0, .int .i64 0, .int .i64 0, .int .i64 0, .int .i64 0, .int .i64 0, .int .i64 0, .int .i64 0, .int .i64 0, .int .i64 0, .int .i64 0, .int .i64 0, .int .i64 0, .int .i64 0, .int .i64 0, .int .i64 0, .int .i64 0]))) := Lib.hid (Own.store HR3.out rfl); have hBz : Below w.heap.size w (w3.setCells R 0 ([.int .i64 0, .slice none 0 0, .slice none 0 0, .slice none 0 0, .int .i64 0, .slice none 0 0, .int .i64 0, .int .i64 0, .int .i64 0, .int .i64 0, .int .i64 0, .int .i64 0, .int .i64 0, .int .i64 0, .int .i64 0, .int .i64 0, .int .i64 0, .int .i64 0, .int .i64 0, .int .i64 0, .int .i64 0, .int .i64 0, .int .i64 0, .int .i64 0])) := Below.setCells hBv Rw _ _; generalize w3.setCells R 0 ([.int .i64 0, .slice none 0 0, .slice none 0 0, .slice none 0 0, .int .i64 0, .slice none 0 0, .int .i64 0, .int .i64 0, .int .i64 0, .int .i64 0, .int .i64 0, .int .i64 0, .int .i64 0, .int .i64 0, .int .i64 0, .int .i64 0, .int .i64 0, .int .i64 0, .int .i64 0, .int .i64 0, .int .i64 0, .int .i64 0, .int .i64 0, .int .i64 0]) = wz at *)
      have hL := run_loadVar_mid (P := Tryd.prog) _ R 0 37 ([.int .i64 0, .slice none 0 0, .slice none 0 0, .slice none 0 0, .int .i64 0, .slice none 0 0, .int .i64 0, .int .i64 0, .int .i64 0, .int .i64 0, .int .i64 0, .int .i64 0, .int .i64 0, .int .i64 0, .int .i64 0, .int .i64 0, .int .i64 0, .int .i64 0, .int .i64 0, .int .i64 0, .int .i64 0, .int .i64 0, .int .i64 0, .int .i64 0]) _ HRz.out.cell Tryd.underlying37 rfl (by kernel_rfl)
      exact bodyPost_ret (v := .tuple #[.agg ([.int .i64 0, .slice none 0 0, .slice none 0 0, .slice none 0 0, .int .i64 0, .slice none 0 0, .int .i64 0, .int .i64 0, .int .i64 0, .int .i64 0, .int .i64 0, .int .i64 0, .int .i64 0, .int .i64 0, .int .i64 0, .int .i64 0, .int .i64 0, .int .i64 0, .int .i64 0, .int .i64 0, .int .i64 0, .int .i64 0, .int .i64 0, .int .i64 0]).toArray, .int .i64 y]) (res_two Tryd.results19 rfl hL rfl) rfl ⟨⟨kinA 0, rfl, kinA_at _ _, few_kin 0, by first | exact ⟨fun h => absurd h hy, fun _ => EqA.refl _⟩ | exact EqA.refl _⟩, hBz⟩
  · have hd : (z != 0) = true := by simpa using hz
    have hd2 : (z == 0) = false := by simpa using hz
    have hBv := hB2
    rw [if_neg hz] at EZ
    have ez := EZ.out
    subst ez
    go_wp2_with (refine wpList_store_mid rfl 37 _ _ rfl R 0 ([.int .i64 0, .slice none 0 0, .slice none 0 0, .slice none 0 0, .int .i64 0, .slice none 0 0, .int .i64 0, .int .i64 0, .int .i64 0, .int .i64 0, .int .i64 0, .int .i64 0, .int .i64 0, .int .i64 0, .int .i64 0, .int .i64 0, .int .i64 0, .int .i64 0, .int .i64 0, .int .i64 0, .int .i64 0, .int .i64 0, .int .i64 0, .int .i64 0]).toArray rfl rfl HR2.out.free (by kernel_rfl) (by simp [Value.oneCell']) ?_; change wpList _ _ _ _ _ (W2.setCells R 0 ([.int .i64 0, .slice none 0 0, .slice none 0 0, .slice none 0 0, .int .i64 0, .slice none 0 0, .int .i64 0, .int .i64 0, .int .i64 0, .int .i64 0, .int .i64 0, .int .i64 0, .int .i64 0, .int .i64 0, .int .i64 0, .int .i64 0, .int .i64 0, .int .i64 0, .int .i64 0, .int .i64 0, .int .i64 0, .int .i64 0, .int .i64 0, .int .i64 0])); have HRz : Hid (Own R ([.int .i64 0, .slice none 0 0, .slice none 0 0, .slice none 0 0, .int .i64 0, .slice none 0 0, .int .i64 0, .int .i64 0, .int .i64 0, .int .i64 0, .int .i64 0, .int .i64 0, .int .i64 0, .int .i64 0, .int .i64 0, .int .i64 0, .int .i64 0, .int .i64 0, .int .i64 0, .int .i64 0, .int .i64 0, .int .i64 0, .int .i64 0, .int .i64 0]) (W2.setCells R 0 ([.int .i64 0, .slice none 0 0, .slice none 0 0, .slice none 0 0, .int .i64 0, .slice none 0 0, .int .i64 0, .int .i64 0, .int .i64 0, .int .i64 0, .int .i64 0, .int .i64 0, .int .i64 0, .int .i64 0, .int .i64 0, .int .i64 0, .int .i64 0, .int .i64 0, .int .i64 0, .int .i64 0, .int .i64 0, .int .i64 0, .int .i64 0, .int .i64 0]))) := Lib.hid (Own.store HR2.out rfl); have hBz : Below w.heap.size w (W2.setCells R 0 ([.int .i64 0, .slice none 0 0, .slice none 0 0, .slice none 0 0, .int .i64 0, .slice none 0 0, .int .i64 0, .int .i64 0, .int .i64 0, .int .i64 0, .int .i64 0, .int .i64 0, .int .i64 0, .int .i64 0, .int .i64 0, .int .i64 0, .int .i64 0, .int .i64 0, .int .i64 0, .int .i64 0, .int .i64 0, .int .i64 0, .int .i64 0, .int .i64 0])) := Below.setCells hBv Rw _ _; generalize W2.setCells R 0 ([.int .i64 0, .slice none 0 0, .slice none 0 0, .slice none 0 0, .int .i64 0, .slice none 0 0, .int .i64 0, .int .i64 0, .int .i64 0, .int .i64 0, .int .i64 0, .int .i64 0, .int .i64 0, .int .i64 0, .int .i64 0, .int .i64 0, .int .i64 0, .int .i64 0, .int .i64 0, .int .i64 0, .int .i64 0, .int .i64 0, .int .i64 0, .int .i64 0]) = wz at *)
    have hL := run_loadVar_mid (P := Tryd.prog) _ R 0 37 ([.int .i64 0, .slice none 0 0, .slice none 0 0, .slice none 0 0, .int .i64 0, .slice none 0 0, .int .i64 0, .int .i64 0, .int .i64 0, .int .i64 0, .int .i64 0, .int .i64 0, .int .i64 0, .int .i64 0, .int .i64 0, .int .i64 0, .int .i64 0, .int .i64 0, .int .i64 0, .int .i64 0, .int .i64 0, .int .i64 0, .int .i64 0, .int .i64 0]) _ HRz.out.cell Tryd.underlying37 rfl (by kernel_rfl)
    exact bodyPost_ret (v := .tuple #[.agg ([.int .i64 0, .slice none 0 0, .slice none 0 0, .slice none 0 0, .int .i64 0, .slice none 0 0, .int .i64 0, .int .i64 0, .int .i64 0, .int .i64 0, .int .i64 0, .int .i64 0, .int .i64 0, .int .i64 0, .int .i64 0, .int .i64 0, .int .i64 0, .int .i64 0, .int .i64 0, .int .i64 0, .int .i64 0, .int .i64 0, .int .i64 0, .int .i64 0]).toArray, .int .i64 y]) (res_two Tryd.results19 rfl hL rfl) rfl ⟨⟨kinA 0, rfl, kinA_at _ _, few_kin 0, by first | exact ⟨fun h => absurd h hz, fun _ => EqA.refl _⟩ | exact EqA.refl _⟩, hBz⟩
end Go.Proofs.YtokfhhngnpbdkaaDoor
