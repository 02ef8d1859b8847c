/- manifest: there and back, as numbers; Decode of what Encode makes. -/
import Derived.Test.YtapkhecebglnlaaDoorGL
import Derived.Test.YtapkhecebglnlaaDoorGU
import Derived.Test.YtapkhecebglnlaaDoorGP
import Derived.Lib.Hide
import Derived.LoopN
import Derived.LoopTactic
import Derived.Deep.Onto
import Derived.Deep.RegionHeld3
import Derived.Deep.QuietTactic
import Derived.BigQuiet
namespace Go.Proofs.YtapkhecebglnlaaDoor
set_option linter.unusedVariables false
set_option maxRecDepth 2000
set_option linter.unusedSimpArgs false
open Go.RowKit
theorem dg_leN (f : Nat → Int) : ∀ (n i : Nat), (∀ j, j < n → inB (f j)) → i < n → dg (leN f n) i = f i := by
  intro n i hf hi
  have e := leN_congr (f := dg (leN f n)) (g := dg (leN f n)) (n := n) (fun _ _ => rfl)
  induction n with
  | zero => omega
  | succ n ih =>
    have hl := leN_lt f n (fun j hj => hf j (by omega))
    have hb := hf n (by omega)
    unfold inB at hb
    by_cases hin : i < n
    · rw [← ih (fun j hj => hf j (by omega)) hin rfl, leN]
      unfold dg
      obtain ⟨d, rfl⟩ : ∃ d, n = i + 1 + d := ⟨n - (i + 1), by omega⟩
      rw [show pw (i + 1 + d) = pw i * (256 * pw d) by rw [pw_add, pw_succ]; simp only [Int.mul_comm, Int.mul_left_comm, Int.mul_assoc]]
      rw [Int.mul_assoc, Int.add_mul_ediv_left _ _ (by have := pw_pos i; omega), Int.mul_assoc]
      omega
    · obtain rfl : i = n := by omega
      rw [leN]
      unfold dg
      rw [Int.add_mul_ediv_left _ _ (by have := pw_pos i; omega), Int.ediv_eq_zero_of_lt hl.1 hl.2]
      omega
theorem val_of {F : Nat → Int} {t W : Nat} {z : Int} (h : ∀ i, i < W → F (t + i) = dg z i) (h0 : 0 ≤ z) (hz : z < pw W) (hT : t + W ≤ 35) : valN F 35 t W = z := by
  unfold valN
  rw [if_pos hT, leN_congr (g := dg z) h, leN_dg, Int.emod_eq_of_lt h0 hz]
theorem val_congr {F G : Nat → Int} {t W : Nat} (h : ∀ j, j < 35 → F j = G j) : valN F 35 t W = valN G 35 t W := by
  unfold valN
  split
  · exact leN_congr fun j hj => h _ (by omega)
  · rfl
theorem maskB_congr {g g' : Nat → Int} (h : ∀ j, j < 8 → g j = g' j) : maskB g = maskB g' := allB_congr fun j hj => by rw [h j hj]
theorem checkF_congr {k f t s c : Int} {g g' : Nat → Int} (h : ∀ j, j < 8 → g j = g' j) : checkF k g f t s c = checkF k g' f t s c := by
  unfold checkF
  rw [maskB_congr h]
theorem enc_back (mi mk ml : Int) (mg : Nat → Int) (mf mt ms mc : Int) (IM : InM mi mk ml mg mf mt ms mc) (hz : checkF mk mg mf mt ms mc = 0) (F : Nat → Int) (hF : F = (encF mi mk ml mg mf mt ms mc)) : valN F 35 0 8 = mi ∧ valN F 35 8 1 = mk ∧ valN F 35 9 4 = ml ∧ (∀ j, j < 8 → mskN F 35 j = mg j) ∧ valN F 35 21 4 = mf ∧ valN F 35 25 4 = mt ∧ valN F 35 29 4 = ms ∧ valN F 35 33 2 = mc := by
  subst hF
  obtain ⟨⟨k1, k4⟩, m15, fl, s1, s2, ec, c1, c8⟩ := check_ok hz
  have p8 := pw_vals.2.2.2.2.2.2.2; have p1 := pw_vals.1; have p4 := pw_vals.2.2.2.1; have p2 := pw_vals.2.1
  have a := IM.hi; have b := IM.hl; have c := IM.hf; have d := IM.ht
  refine ⟨val_of (enc_i mi mk ml mg mf mt ms mc) (by omega) (by omega) (by decide), val_of (enc_k mi mk ml mg mf mt ms mc) (by omega) (by omega) (by decide), val_of (enc_l mi mk ml mg mf mt ms mc) (by omega) (by omega) (by decide), fun j hj => ?_, val_of (enc_f mi mk ml mg mf mt ms mc) (by omega) (by omega) (by decide), val_of (enc_t mi mk ml mg mf mt ms mc) (by omega) (by omega) (by decide), val_of (enc_s mi mk ml mg mf mt ms mc) (by omega) (by omega) (by decide), val_of (enc_c mi mk ml mg mf mt ms mc) (by omega) (by omega) (by decide)⟩
  have g := IM.hg j hj
  unfold inB at g
  exact val_of (fun i hi => enc_g mi mk ml mg mf mt ms mc j i hj hi) g.1 (by omega) (by omega)
theorem dec_enc (mi mk ml : Int) (mg : Nat → Int) (mf mt ms mc : Int) (IM : InM mi mk ml mg mf mt ms mc) (hz : checkF mk mg mf mt ms mc = 0) : decE (encF mi mk ml mg mf mt ms mc) 35 = 0 := by
  obtain ⟨e0, e1, e2, e3, e4, e5, e6, e7⟩ := enc_back mi mk ml mg mf mt ms mc IM hz _ rfl
  show checkF _ _ _ _ _ _ = 0
  rw [e1, e4, e5, e6, e7, checkF_congr e3]
  exact hz
theorem Decode_enc (mi mk ml : Int) (mg : Nat → Int) (mf mt ms mc : Int) (IM : InM mi mk ml mg mf mt ms mc) (hz : checkF mk mg mf mt ms mc = 0) (q : Option Addr) (c : Nat) (w : World) (hg : Has 0 0 CapL w) (hq : Byt w q 35 (encF mi mk ml mg mf mt ms mc)) :
    Calls Tryd.prog 18 #[.slice q 35 c] w fun e w' => e = .returned (.tuple #[(.agg #[.int .u64 mi, .int .i64 mk, .int .u32 ml, .int .u8 (mg 0), .int .u8 (mg 1), .int .u8 (mg 2), .int .u8 (mg 3), .int .u8 (mg 4), .int .u8 (mg 5), .int .u8 (mg 6), .int .u8 (mg 7), .int .u32 mf, .int .u32 mt, .int .i64 ms, .int .i64 mc]), .int .i64 0]) ∧ Below w.heap.size w w' := by
  have h := Decode_yes (encF mi mk ml mg mf mt ms mc) q 35 c rfl (fun j _ => in_encF mi mk ml mg mf mt ms mc j) w hg hq (dec_enc mi mk ml mg mf mt ms mc IM hz)
  obtain ⟨e0, e1, e2, e3, e4, e5, e6, e7⟩ := enc_back mi mk ml mg mf mt ms mc IM hz _ rfl
  rw [e0, e1, e2, e4, e5, e6, e7, e3 0 (by decide), e3 1 (by decide), e3 2 (by decide), e3 3 (by decide), e3 4 (by decide), e3 5 (by decide), e3 6 (by decide), e3 7 (by decide)] at h
  exact h
/-- two manifests that may be have the same bytes just if they are the same -/
theorem enc_inj (mi mk ml : Int) (mg : Nat → Int) (mf mt ms mc : Int) (ni nk nl : Int) (ng : Nat → Int) (nf nt ns nc : Int) (IM : InM mi mk ml mg mf mt ms mc) (IN : InM ni nk nl ng nf nt ns nc) (hz : checkF mk mg mf mt ms mc = 0) (hz2 : checkF nk ng nf nt ns nc = 0) : gqB (encF mi mk ml mg mf mt ms mc) (encF ni nk nl ng nf nt ns nc) 35 = manB mi mk ml mg mf mt ms mc ni nk nl ng nf nt ns nc := by
  rw [Bool.eq_iff_iff, manB_iff]
  unfold gqB
  rw [decide_eq_true_iff]
  constructor
  · intro h
    obtain ⟨e0, e1, e2, e3, e4, e5, e6, e7⟩ := enc_back mi mk ml mg mf mt ms mc IM hz _ rfl
    obtain ⟨f0, f1, f2, f3, f4, f5, f6, f7⟩ := enc_back ni nk nl ng nf nt ns nc IN hz2 _ rfl
    refine ⟨?_, ?_, ?_, fun j hj => ?_, ?_, ?_, ?_, ?_⟩
    · rw [← e0, ← f0]; exact val_congr h
    · rw [← e1, ← f1]; exact val_congr h
    · rw [← e2, ← f2]; exact val_congr h
    · rw [← e3 j hj, ← f3 j hj]; exact val_congr h
    · rw [← e4, ← f4]; exact val_congr h
    · rw [← e5, ← f5]; exact val_congr h
    · rw [← e6, ← f6]; exact val_congr h
    · rw [← e7, ← f7]; exact val_congr h
  · rintro ⟨rfl, rfl, rfl, hm, rfl, rfl, rfl, rfl⟩ j hj
    unfold encF
    split
    · rfl
    · split
      · rfl
      · split
        · rfl
        · split
          · rw [hm _ (by omega)]
          · rfl
/-- bytes that a manifest comes out of are its bytes -/
theorem enc_of (F : Nat → Int) (hF : ∀ j, j < 35 → inB (F j)) (j : Nat) (hj : j < 35) : encF (valN F 35 0 8) (valN F 35 8 1) (valN F 35 9 4) (mskN F 35) (valN F 35 21 4) (valN F 35 25 4) (valN F 35 29 4) (valN F 35 33 2) j = F j := by
  have V : ∀ t W i, t + W ≤ 35 → i < W → dg (valN F 35 t W) i = F (t + i) := fun t W i h h2 => by
    unfold valN
    rw [if_pos h]
    exact dg_leN (fun j => F (t + j)) W i (fun j hj => hF _ (by omega)) h2
  unfold encF
  split
  · rw [V 0 8 j (by decide) (by omega)]; congr 1; omega
  · split
    · rw [V 8 1 _ (by decide) (by omega)]; congr 1; omega
    · split
      · rw [V 9 4 _ (by decide) (by omega)]; congr 1; omega
      · split
        · unfold mskN
          rw [V _ 1 0 (by omega) (by decide)]; congr 1; omega
        · split
          · rw [V 21 4 _ (by decide) (by omega)]; congr 1; omega
          · split
            · rw [V 25 4 _ (by decide) (by omega)]; congr 1; omega
            · split
              · rw [V 29 4 _ (by decide) (by omega)]; congr 1; omega
              · rw [V 33 2 _ (by decide) (by omega)]; congr 1; omega
theorem in_vals (F : Nat → Int) (hF : ∀ j, j < 35 → inB (F j)) : InM (valN F 35 0 8) (valN F 35 8 1) (valN F 35 9 4) (mskN F 35) (valN F 35 21 4) (valN F 35 25 4) (valN F 35 29 4) (valN F 35 33 2) := by
  have p8 := pw_vals.2.2.2.2.2.2.2; have p1 := pw_vals.1; have p4 := pw_vals.2.2.2.1; have p2 := pw_vals.2.1
  have b0 := in_valN hF 0 8; have b1 := in_valN hF 8 1; have b2 := in_valN hF 9 4; have b4 := in_valN hF 21 4; have b5 := in_valN hF 25 4; have b6 := in_valN hF 29 4; have b7 := in_valN hF 33 2
  refine ⟨by omega, by omega, by omega, fun j hj => ?_, by omega, by omega, by omega, by omega⟩
  have b3 := in_valN hF (13 + j) 1
  unfold mskN inB
  omega
end Go.Proofs.YtapkhecebglnlaaDoor
