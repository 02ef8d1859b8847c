/- texture: the walk of TextureBetween. -/
import Derived.Test.YtbhdlpndmbhaiaaMUC
import Derived.Lib.Hide
import Derived.LoopN
import Derived.LoopTactic
import Derived.Deep.Onto
import Derived.Deep.RegionHeld3
import Derived.Deep.QuietTactic
import Derived.BigQuiet
import Derived.StillTailTactics
import Derived.Lib.SliceRun
namespace Go.Proofs.Ytbhdlpndmbhaiaa
set_option linter.unusedVariables false
set_option maxRecDepth 2000
set_option linter.unusedSimpArgs false
open Go.RowKit
/-- the least and the greatest of the first m numbers of a colour -/
def loF (f : Nat → Int) (c : Nat) : Nat → Int
  | 0 => 255
  | m + 1 => min (loF f c m) (f (m * 3 + c))
def hiF (f : Nat → Int) (c : Nat) : Nat → Int
  | 0 => 0
  | m + 1 => max (hiF f c m) (f (m * 3 + c))
theorem loF_le (f : Nat → Int) (c : Nat) : ∀ {m j : Nat}, j < m → loF f c m ≤ f (j * 3 + c)
  | m + 1, j, h => by
    show min (loF f c m) (f (m * 3 + c)) ≤ _
    by_cases hj : j < m
    · exact Int.le_trans (Int.min_le_left _ _) (loF_le f c hj)
    · obtain rfl : j = m := by omega
      exact Int.min_le_right _ _
theorem le_hiF (f : Nat → Int) (c : Nat) : ∀ {m j : Nat}, j < m → f (j * 3 + c) ≤ hiF f c m
  | m + 1, j, h => by
    show _ ≤ max (hiF f c m) (f (m * 3 + c))
    by_cases hj : j < m
    · exact Int.le_trans (le_hiF f c hj) (Int.le_max_left _ _)
    · obtain rfl : j = m := by omega
      exact Int.le_max_right _ _
theorem mean_btw {a b c d l h : Int} (ha : l ≤ a ∧ a ≤ h) (hb : l ≤ b ∧ b ≤ h) (hc : l ≤ c ∧ c ≤ h) (hd : l ≤ d ∧ d ≤ h) : l ≤ meanF a b c d ∧ meanF a b c d ≤ h := by
  unfold meanF
  omega
theorem hlf_btw {s h : Nat} (f : Nat → Int) (e : s = 2 * h) {c j : Nat} (hc : c < 3) (hj : j < h * h) : loF f c (s * s) ≤ hlfF f s h (j * 3 + c) ∧ hlfF f s h (j * 3 + c) ≤ hiF f c (s * s) := by
  have h0 : 1 ≤ h := by
    rcases Nat.eq_zero_or_pos h with h1 | h1
    · subst h1; omega
    · exact h1
  have e1 : (j * 3 + c) / 3 = j := by omega
  have e2 : (j * 3 + c) % 3 = c := by omega
  unfold hlfF hlfT
  rw [e1, e2]
  have hx : j % h < h := Nat.mod_lt _ h0
  have hy : j / h < h := Nat.div_lt_of_lt_mul hj
  have V : ∀ a b, a ≤ 1 → b ≤ 1 → loF f c (s * s) ≤ txl f s (2 * (j % h) + a) (2 * (j / h) + b) c ∧ txl f s (2 * (j % h) + a) (2 * (j / h) + b) c ≤ hiF f c (s * s) := fun a b ha hb => ⟨loF_le f c (ix2_lt e hx hy a b ha hb), le_hiF f c (ix2_lt e hx hy a b ha hb)⟩
  exact mean_btw (V 0 0 (by decide) (by decide)) (V 1 0 (by decide) (by decide)) (V 0 1 (by decide) (by decide)) (V 1 1 (by decide) (by decide))
/-- the texels of a level lie between those ahead -/
theorem LvG.btw {M : Txr} {p : Option Addr} {K d i c j : Nat} {X : Nat → Txr} {W : World} (h : LvG M p K d X W) (hi : i + 1 < K) (hc : c < 3) (hj : j < (X (i + 1)).n) : loF (X i).f c (X i).n ≤ (X (i + 1)).f (j * 3 + c) ∧ (X (i + 1)).f (j * 3 + c) ≤ hiF (X i).f c (X i).n := by
  have hz : chkT M.S M.n M.f = 0 := Classical.byContradiction fun hz => by have := h.n hz; omega
  obtain ⟨⟨_, _, h2⟩, g⟩ := h.y hz
  have o0 := (h.x i (by omega)).2
  have o1 := (h.x (i + 1) hi).2
  have G := lv_good g i (fun j hj => h2 j (by omega))
  have two := sd_two G (h2 i hi)
  rw [o1.n] at hj
  rw [o0.n, o0.f, o1.f]
  exact hlf_btw (lvF M.f M.S.toNat i) two.1 hc hj
theorem LvG.half {M : Txr} {p : Option Addr} {K d i : Nat} {X : Nat → Txr} {W : World} (h : LvG M p K d X W) (hi : i + 1 < K) : (X i).S = 2 * (X (i + 1)).S ∧ 1 ≤ (X (i + 1)).S ∧ (X (i + 1)).S ≤ 8 ∧ chkT (X (i + 1)).S (X (i + 1)).n (X (i + 1)).f = 0 := by
  have hz : chkT M.S M.n M.f = 0 := Classical.byContradiction fun hz => by have := h.n hz; omega
  obtain ⟨⟨_, _, h2⟩, g⟩ := h.y hz
  have o0 := (h.x i (by omega)).2
  have o1 := (h.x (i + 1) hi).2
  have G := lv_good g i (fun j hj => h2 j (by omega))
  have two := sd_two G (h2 i hi)
  refine ⟨by rw [o0.S, o1.S]; omega, by rw [o1.S]; omega, by rw [o1.S]; omega, ?_⟩
  have G2 := lv_good g (i + 1) (fun j hj => h2 j (by omega))
  rw [o1.S, o1.n, o1.f]
  exact good_tchk G2
theorem LvG.has {M : Txr} {p : Option Addr} {K d i : Nat} {X : Nat → Txr} {W : World} (h : LvG M p K d X W) (hi : i < K) : ∃ E o, (X i).q = some ⟨E, o, none⟩ ∧ 1 ≤ (X i).n := by
  have hz : chkT M.S M.n M.f = 0 := Classical.byContradiction fun hz => by have := h.n hz; omega
  obtain ⟨⟨_, h1, h2⟩, g⟩ := h.y hz
  have oi := (h.x i hi).2
  have G := lv_good g i (fun j hj => h2 j (by omega))
  have hn : 1 ≤ (X i).n := by
    rw [oi.n]
    have : 1 ≤ sdF M.S.toNat i := by have := G.s; omega
    exact Nat.mul_le_mul this this
  obtain ⟨E, o, e, _⟩ := (h.x i hi).1.t.resolve_left (by omega)
  exact ⟨E, o, e, hn⟩
theorem three_at (g : Nat → Int) (m : Nat) {c : Nat} (hc : c < 3) : ([.int .i64 (g (m * 3)), .int .i64 (g (m * 3 + 1)), .int .i64 (g (m * 3 + 2))] : List Value)[c]? = some (.int .i64 (g (m * 3 + c))) :=
  match c, hc with
  | 0, _ => rfl
  | 1, _ => rfl
  | 2, _ => rfl
set_option maxHeartbeats 16000000 in
theorem Between_law (M : Txr) (w : World) (hM : TxAt M w) : Calls Try.prog 7 #[.agg #[.int .i64 M.S, .slice M.q M.n M.c]] w fun e w' => e = .returned (.bool true) ∧ Below w.heap.size w w' := by
  have HM := Lib.hid hM
  clear hM
  go_enter Try.func7, Try.ntmps7
  go_upto_region 1 with fail
  obtain ⟨W0, hW⟩ : ∃ W0, W0 = (w.alloc (.cells #[.int .i64 M.S, .slice M.q M.n M.c] 24)) := ⟨_, rfl⟩
  have hB0 : Below w.heap.size w W0 := hW ▸ (Below.al (Below.refl _ _))
  have HA : Hid (Own w.heap.size [.int .i64 M.S, .slice M.q M.n M.c] W0) := Lib.hid (hW ▸ (Own.newAt (by simp)))
  rw [← hW]
  clear hW
  obtain ⟨A, eA⟩ : ∃ X, X = w.heap.size := ⟨_, rfl⟩
  rw [← eA] at HA ⊢
  have Aw : w.heap.size ≤ A := by omega
  clear eA
  have HM0 := Lib.hid (HM.out.later hB0)
  have oA := HA.out
  have A0 := oA.at 0 _ rfl
  have A1 := oA.at 1 _ rfl
  have Al := oA.lt
  clear oA
  go_wp2_with (fail)
  go_at_call 8
  refine (few_tex M _ HM0.out).mono ?_
  rintro e w1 ⟨rfl, hb⟩
  have HA1 := Lib.hid (HA.out.later hb); have HB1 := Lib.hid (Below.go hB0 hb)
  have HY := Lib.hid (fewT_at HM.out)
  have YN := Lib.hid (fewT_n M)
  clear hb hB0 HM HM0 HA A0 A1 Al
  generalize fewT M = Y at *
  have oA := HA1.out
  have A0 := oA.at 0 _ rfl
  have Af0 := oA.ok 0 (by simp)
  have A1 := oA.at 1 _ rfl
  have Af1 := oA.ok 1 (by simp)
  have Al := oA.lt
  clear oA
  go_upto_region 2 with fail
  clear A0 A1 Af0 Af1 Al
  rw [show ((w1.setCell ⟨A, 0, none⟩ (.int .i64 Y.S)).setCell ⟨A, 1, none⟩ (.slice Y.q Y.n Y.c)) = w1.setCells A 0 [.int .i64 Y.S, .slice Y.q Y.n Y.c] from rfl]
  have HA : Hid (Own A [.int .i64 Y.S, .slice Y.q Y.n Y.c] (w1.setCells A 0 [.int .i64 Y.S, .slice Y.q Y.n Y.c])) := Lib.hid (Own.store HA1.out rfl)
  have HB : Hid (Below w.heap.size w (w1.setCells A 0 [.int .i64 Y.S, .slice Y.q Y.n Y.c])) := Lib.hid (Below.setCells HB1.out Aw _ _)
  clear HA1 HB1
  generalize w1.setCells A 0 [.int .i64 Y.S, .slice Y.q Y.n Y.c] = w2 at *
  have CL := Lib.hid (Levels_out Y)
  obtain ⟨z, ez⟩ : ∃ z, chkT Y.S Y.n Y.f = z := ⟨_, rfl⟩
  have EZ := Lib.hid ez
  rw [ez] at CL
  clear ez
  have oA := HA.out
  have A0 := oA.at 0 _ rfl
  have A1 := oA.at 1 _ rfl
  have Al := oA.lt
  clear oA
  go_wp2_with (fail)
  go_at_call 20
  refine (CL.out _ (HY.out.later HB.out)).mono ?_
  rintro e w3 ⟨⟨p, K, d, X, rfl, hg⟩, hb⟩
  have HA_ := Lib.hid (HA.out.later hb)
  have HB_ := Lib.hid (Below.go HB.out hb)
  have LG := Lib.hid hg
  clear hg
  clear hb HB HA
  have HA := HA_
  clear HA_
  have HB := HB_
  clear HB_
  clear A0 A1 Al CL
  have K5 := Lib.hid LG.out.small
  by_cases hz : z = 0
  · subst hz
    obtain ⟨LK, GD⟩ := LG.out.y EZ.out
    have LKh := Lib.hid LK
    obtain ⟨K1, eK⟩ : ∃ K1, K = K1 + 1 := ⟨K - 1, by have := LK.1; omega⟩
    have EK := Lib.hid eK
    have S1 : (X K1).S = 1 := by rw [(LG.out.x K1 (by omega)).2.S, show K1 = K - 1 by omega, LK.2.1]; rfl
    obtain ⟨D, rfl, hD, c0, c1⟩ := LG.out.c 0 (by omega)
    obtain ⟨D', e', _, d0, _⟩ := LG.out.c K1 (by omega)
    obtain rfl : D = D' := by injection e' with e'; injection e' with e'
    rw [S1] at d0
    have wK : IntKind.i64.wrap ((K : Int) - 1) = (K1 : Int) := by rw [IntWalk.i64_in _ (by have := K5.out; omega)]; omega
    have k1 : (0 : Int) ≤ (K1 : Int) := by omega
    have k2 : (K1 : Int) < (K : Int) := by omega
    have k3 : (0 : Int) < (K : Int) := by omega
    have k4 : ((K : Int) == 0) = false := by simp; omega
    have k5 : 0 < K := by omega
    have o0 := (LG.out.x 0 (by omega)).2
    have SY := Lib.hid (fun W h1 h2 => Same_yes (X 0) Y W h1 h2 (by rw [o0.S]; have := GD.s; show ((sdF Y.S.toNat 0 : Nat) : Int) = _; show ((Y.S.toNat : Nat) : Int) = _; have := (tchk_good EZ.out).s; omega) (by rw [o0.n]; obtain ⟨s, e1, e2, e3⟩ := (tchk_good EZ.out).cnt; rw [e3]; show Y.S.toNat * Y.S.toNat = _; rw [show Y.S.toNat = s by omega]) (fun j _ => by rw [o0.f]; rfl) (Nat.le_trans (LG.out.sd (by omega)) (by decide)))
    clear LK GD eK S1 e' o0
    simp only [Nat.zero_mul, Nat.zero_add] at c0 c1
    have SH : Hid (∀ w', Below w3.heap.size w3 w' → w'.cell? ⟨D, 0, none⟩ = some (.int .i64 (X 0).S) ∧ w'.cell? ⟨D, 1, none⟩ = some (.slice (X 0).q (X 0).n (X 0).c) ∧ w'.cell? ⟨D, K1 * 2, none⟩ = some (.int .i64 1) ∧ w'.cell? ⟨A, 0, none⟩ = some (.int .i64 Y.S) ∧ w'.cell? ⟨A, 1, none⟩ = some (.slice Y.q Y.n Y.c)) := Lib.hid fun w' hb => ⟨(hb.cell (p := ⟨D, 0, none⟩) hD).trans c0, (hb.cell (p := ⟨D, 1, none⟩) hD).trans c1, (hb.cell (p := ⟨D, K1 * 2, none⟩) hD).trans d0, (HA.out.later hb).at 0 _ rfl, (HA.out.later hb).at 1 _ rfl⟩
    go_wp2_with (fail)
    have hBd : Below w3.heap.size w3 w3.drew := (Below.refl _ _).drew
    go_region_held3 (fun w' => w'.cell? ⟨D, 0, none⟩ = some (.int .i64 (X 0).S) ∧ w'.cell? ⟨D, 1, none⟩ = some (.slice (X 0).q (X 0).n (X 0).c) ∧ w'.cell? ⟨D, K1 * 2, none⟩ = some (.int .i64 1) ∧ w'.cell? ⟨A, 0, none⟩ = some (.int .i64 Y.S) ∧ w'.cell? ⟨A, 1, none⟩ = some (.slice Y.q Y.n Y.c)) (first | exact SH.out _ (by assumption) | exact SH.out _ (Below.al (by assumption))) (first | (go_at_call 17; (with_reducible refine (SY.out _ ((LG.out.x 0 (by have := EK.out; omega)).1.later hBd) (HY.out.later (Below.go HB.out hBd))).mono ?_); rintro e y1 ⟨rfl, h1⟩; have by1 : Below w3.heap.size w3 y1 := Below.go hBd h1; clear h1))
    have LG_ := Lib.hid (LG.out.later by1); have HB_ := Lib.hid (Below.go HB.out by1)
    clear hBd by1 SH SY wK k1 k2 k3 k4 k5 c0 c1 d0 hD LG HB HA
    try clear hHeld
    go_wp2_with (fail)
    go_loopw [5] (fun iv wr => ∃ (i : Nat), 1 ≤ i ∧ i ≤ K ∧ iv = .int .i64 i ∧ Hid (LvG Y (some ⟨D, 0, none⟩) K d X wr) ∧ Hid (Below w.heap.size w wr)) (fun iv _ => (K - (intOf iv).toNat))
    case atStart => exact ⟨1, Nat.le_refl _, by have := EK.out; omega, rfl, LG_, HB_⟩
    case round =>
      clear LG_ HB_
      obtain ⟨i, hi1, hi, rfl, LG, HB⟩ := hrel
      by_cases hlt : i < K
      · obtain ⟨j, ej⟩ : ∃ j, i = j + 1 := ⟨i - 1, by omega⟩
        obtain ⟨D', e', hD, c0, c1⟩ := LG.out.c i hlt
        obtain rfl : D = D' := by injection e' with e'; injection e' with e'
        obtain ⟨D', e', _, d0, d1⟩ := LG.out.c j (by omega)
        obtain rfl : D = D' := by injection e' with e'; injection e' with e'
        clear e'
        have hf := LG.out.half (i := j) (by omega)
        rw [← ej] at hf
        obtain ⟨h1, h2, h3, h4⟩ := hf
        rw [h1] at d0
        have w2_ : IntKind.i64.wrap (2 * (X i).S) = 2 * (X i).S := IntWalk.i64_in _ (by omega)
        have wj : IntKind.i64.wrap ((i : Int) - 1) = (j : Int) := by rw [IntWalk.i64_in _ (by have := K5.out; omega)]; omega
        have wi : IntKind.i64.wrap ((i : Int) + 1) = (i : Int) + 1 := IntWalk.i64_in _ (by have := K5.out; omega)
        have i0 : (0 : Int) ≤ (i : Int) := by omega
        have iK : (i : Int) < (K : Int) := by omega
        have j0 : (0 : Int) ≤ (j : Int) := by omega
        have jK : (j : Int) < (K : Int) := by omega
        have CK := Lib.hid (Check_any (X i))
        rw [h4] at CK
        have EJ := Lib.hid ej; have HLT := Lib.hid hlt; have HI1 := Lib.hid hi1
        clear h1 h2 h3 h4 hlt hi hi1 ej
        go_wp2_with (fail)
        refine wp_region_still_tail 18 (by kernel_rfl) (by kernel_rfl) ?_; simp only [List.take_succ_cons, List.take_zero, List.drop_succ_cons, List.drop_zero]; change wpStill _ _ (World.drew _) (fun a1 => wpList _ _ _ _ a1 (World.drew _)) _ _; repeat still_step
        refine wpStill_nil ?_
        have hBd : Below wr.heap.size wr wr.drew := (Below.refl _ _).drew
        go_wp2_with (fail)
        go_at_call 11
        refine (CK.out _ ((LG.out.x i HLT.out).1.later hBd)).mono ?_
        rintro e y1 ⟨rfl, hb⟩
        have hb2 := Below.go hBd hb
        have LG_ := Lib.hid (LG.out.later hb2); have HB_ := Lib.hid (Below.go HB.out hb2)
        clear hb hb2 hBd LG HB c0 c1 d0 d1 hD CK w2_
        go_wp2_with (fail)
        have BT := Lib.hid (fun c t (hc : c < 3) => (LG_.out.btw (i := j) (c := c) (j := t) (by have := EJ.out; have := HLT.out; omega) hc))
        rw [← EJ.out] at BT
        obtain ⟨E, o, eq, n1⟩ := LG_.out.has (i := j) (by have := EJ.out; have := HLT.out; omega)
        obtain ⟨E2, o2, eq2, n2⟩ := LG_.out.has HLT.out
        have nj := LG_.out.sd (i := j) (by have := EJ.out; have := HLT.out; omega)
        have ni := LG_.out.sd HLT.out
        have CJ : Hid (∀ W', LvG Y (some ⟨D, 0, none⟩) K d X W' → D < W'.heap.size ∧ W'.cell? ⟨D, j * 2 + 1, none⟩ = some (.slice (some ⟨E, o, none⟩) (X j).n (X j).c) ∧ NmS W' 3 (some ⟨E, o, none⟩) (X j).n (X j).f) := Lib.hid (fun W' h => by
          obtain ⟨D', e', a1, a2, a3⟩ := h.c j (by have := EJ.out; have := HLT.out; omega)
          obtain rfl : D = D' := by injection e' with e'; injection e' with e'
          rw [eq] at a3
          exact ⟨a1, a3, eq ▸ (h.x j (by have := EJ.out; have := HLT.out; omega)).1.t⟩)
        have CI : Hid (∀ W', LvG Y (some ⟨D, 0, none⟩) K d X W' → D < W'.heap.size ∧ W'.cell? ⟨D, i * 2 + 1, none⟩ = some (.slice (some ⟨E2, o2, none⟩) (X i).n (X i).c) ∧ NmS W' 3 (some ⟨E2, o2, none⟩) (X i).n (X i).f) := Lib.hid (fun W' h => by
          obtain ⟨D', e', a1, a2, a3⟩ := h.c i HLT.out
          obtain rfl : D = D' := by injection e' with e'; injection e' with e'
          rw [eq2] at a3
          exact ⟨a1, a3, eq2 ▸ (h.x i HLT.out).1.t⟩)
        clear eq eq2 n1 n2
        have NJ := Lib.hid nj; have NI := Lib.hid ni
        clear nj ni
        generalize (X j).n = nj at *
        generalize (X i).n = ni at *
        generalize (X j).c = cj at *
        generalize (X i).c = ci at *
        generalize (X j).f = fj at *
        generalize (X i).f = fi at *
        go_loopw [76] (fun iv wr => ∃ (c : Nat), c ≤ 3 ∧ iv = .int .i64 c ∧ Hid (LvG Y (some ⟨D, 0, none⟩) K d X wr) ∧ Hid (Below w.heap.size w wr)) (fun iv _ => (3 - (intOf iv).toNat))
        case atStart => exact ⟨0, by decide, rfl, LG_, HB_⟩
        case round =>
          clear LG_ HB_
          obtain ⟨c, hc, rfl, LG, HB⟩ := hrel
          by_cases hc3 : c < 3
          · have c0 : (0 : Int) ≤ (c : Int) := by omega
            have c3 : (c : Int) < 3 := by omega
            have wc : IntKind.i64.wrap ((c : Int) + 1) = (c : Int) + 1 := IntWalk.i64_in _ (by omega)
            have HC3 := Lib.hid hc3
            obtain ⟨hD, d1, _⟩ := CJ.out _ LG.out
            clear hc hc3
            go_wp2_with (fail)
            clear d1 hD
            go_loopw [7, 8, 86] (fun lo hi mv wr => ∃ (m : Nat), m ≤ nj ∧ lo = .int .i64 (loF fj c m) ∧ hi = .int .i64 (hiF fj c m) ∧ mv = .int .i64 m ∧ Hid (LvG Y (some ⟨D, 0, none⟩) K d X wr) ∧ Hid (Below w.heap.size w wr)) (fun _ _ mv _ => (nj - (intOf mv).toNat))
            case atStart => exact ⟨0, Nat.zero_le _, rfl, rfl, rfl, LG, HB⟩
            case round =>
              clear LG HB
              obtain ⟨m, hm, rfl, rfl, rfl, LG, HB⟩ := hrel
              by_cases hmn : m < nj
              · have hmi : (m : Int) < (nj : Int) := by omega
                have m0 : (0 : Int) ≤ (m : Int) := by omega
                have wm : IntKind.i64.wrap ((m : Int) + 1) = (m : Int) + 1 := IntWalk.i64_in _ (by have := NJ.out; omega)
                have HMN := Lib.hid hmn
                obtain ⟨D', o', e', hE, t0, t1, t2⟩ := (CJ.out _ LG.out).2.2.at3 hmn
                obtain ⟨rfl, rfl⟩ : E = D' ∧ o = o' := by simpa using e'
                have XC := three_at fj m HC3.out
                have EL : Hid (loF fj c (m + 1) = min (loF fj c m) (fj (m * 3 + c))) := Lib.hid rfl
                have EH : Hid (hiF fj c (m + 1) = max (hiF fj c m) (fj (m * 3 + c))) := Lib.hid rfl
                generalize loF fj c m = L at *
                generalize hiF fj c m = H at *
                obtain ⟨xc, exc⟩ : ∃ z, fj (m * 3 + c) = z := ⟨_, rfl⟩
                obtain ⟨x0, ex0⟩ : ∃ z, fj (m * 3) = z := ⟨_, rfl⟩
                obtain ⟨x1, ex1⟩ : ∃ z, fj (m * 3 + 1) = z := ⟨_, rfl⟩
                obtain ⟨x2, ex2⟩ : ∃ z, fj (m * 3 + 2) = z := ⟨_, rfl⟩
                rw [exc] at XC EL EH
                rw [ex0] at XC t0
                rw [ex1] at XC t1
                rw [ex2] at XC t2
                have XCh := Lib.hid XC
                clear hm hmn e' exc ex0 ex1 ex2 XC
                go_upto_region 19 with fail
                clear t0 t1 t2 hE
                obtain ⟨v0, hW⟩ : ∃ v0, v0 = (wr.alloc (.cells #[.int .i64 x0, .int .i64 x1, .int .i64 x2] 50)) := ⟨_, rfl⟩
                have hbv : Below wr.heap.size wr v0 := hW ▸ (Below.al (Below.refl _ _))
                have HC : Hid (Own wr.heap.size [.int .i64 x0, .int .i64 x1, .int .i64 x2] v0) := Lib.hid (hW ▸ (Own.newAt (by simp)))
                rw [← hW]
                clear hW
                obtain ⟨C, eC⟩ : ∃ X, X = wr.heap.size := ⟨_, rfl⟩
                rw [← eC] at HC ⊢
                have Cw : wr.heap.size ≤ C := by omega
                clear eC
                have LGv := Lib.hid (LG.out.later hbv); have HBv := Lib.hid (Below.go HB.out hbv)
                clear hbv LG HB Cw
                have xat := HC.out.at c _ XCh.out; have Cl := HC.out.lt
                go_quiet (fail)
                have hBd : Below v0.heap.size v0 (v0.drewN nq) := below_drewN (Below.refl _ _) _
                have LG_ := Lib.hid (LGv.out.later hBd); have HB_ := Lib.hid (Below.go HBv.out hBd)
                clear hBd LGv HBv xat Cl HC XCh
                generalize v0.drewN nq = v1 at *
                go_wp2_with (fail)
                go_roundw
                case rel => (first | exact ⟨m + 1, HMN.out, by rw [EL.out], by rw [EH.out], by go_num, LG_, HB_⟩ | ((repeat apply Exists.intro); exact ⟨⟨m + 1, HMN.out, by rw [EL.out], by rw [EH.out], by go_num, LG_, HB_⟩, rfl⟩))
                case measure => (have := HMN.out; simp [intOf]; omega)
              · obtain rfl : m = nj := by omega
                obtain ⟨hD, d1, _⟩ := CI.out _ LG.out
                clear hm hmn
                have BC := Lib.hid (fun t (ht : t < ni) => BT.out c t HC3.out ht)
                generalize loF fj c m = L at *
                generalize hiF fj c m = H at *
                go_wp2_with (fail)
                clear d1 hD
                go_loopw [107] (fun mv wr => ∃ (t : Nat), t ≤ ni ∧ mv = .int .i64 t ∧ Hid (LvG Y (some ⟨D, 0, none⟩) K d X wr) ∧ Hid (Below w.heap.size w wr)) (fun mv _ => (ni - (intOf mv).toNat))
                case atStart => exact ⟨0, Nat.zero_le _, rfl, LG, HB⟩
                case round =>
                  clear LG HB
                  obtain ⟨t, ht, rfl, LG, HB⟩ := hrel
                  by_cases htn : t < ni
                  · have hti : (t : Int) < (ni : Int) := by omega
                    have t00 : (0 : Int) ≤ (t : Int) := by omega
                    have wt : IntKind.i64.wrap ((t : Int) + 1) = (t : Int) + 1 := IntWalk.i64_in _ (by have := NI.out; omega)
                    have HTN := Lib.hid htn
                    obtain ⟨D', o', e', hE, t0, t1, t2⟩ := (CI.out _ LG.out).2.2.at3 htn
                    obtain ⟨rfl, rfl⟩ : E2 = D' ∧ o2 = o' := by simpa using e'
                    have XC := three_at fi t HC3.out
                    have bb := BC.out t htn
                    obtain ⟨xc, exc⟩ : ∃ z, fi (t * 3 + c) = z := ⟨_, rfl⟩
                    obtain ⟨x0, ex0⟩ : ∃ z, fi (t * 3) = z := ⟨_, rfl⟩
                    obtain ⟨x1, ex1⟩ : ∃ z, fi (t * 3 + 1) = z := ⟨_, rfl⟩
                    obtain ⟨x2, ex2⟩ : ∃ z, fi (t * 3 + 2) = z := ⟨_, rfl⟩
                    rw [exc] at XC bb
                    rw [ex0] at XC t0
                    rw [ex1] at XC t1
                    rw [ex2] at XC t2
                    have XCh := Lib.hid XC
                    have b1 : decide (xc < L) = false := decide_eq_false (by omega)
                    have b2 : decide (H < xc) = false := decide_eq_false (by omega)
                    clear ht htn e' exc ex0 ex1 ex2 XC bb
                    go_upto_region 24 with fail
                    clear t0 t1 t2 hE
                    obtain ⟨v0, hW⟩ : ∃ v0, v0 = (wr.alloc (.cells #[.int .i64 x0, .int .i64 x1, .int .i64 x2] 50)) := ⟨_, rfl⟩
                    have hbv : Below wr.heap.size wr v0 := hW ▸ (Below.al (Below.refl _ _))
                    have HC : Hid (Own wr.heap.size [.int .i64 x0, .int .i64 x1, .int .i64 x2] v0) := Lib.hid (hW ▸ (Own.newAt (by simp)))
                    rw [← hW]
                    clear hW
                    obtain ⟨C, eC⟩ : ∃ X, X = wr.heap.size := ⟨_, rfl⟩
                    rw [← eC] at HC ⊢
                    have Cw : wr.heap.size ≤ C := by omega
                    clear eC
                    have LG_ := Lib.hid (LG.out.later hbv); have HB_ := Lib.hid (Below.go HB.out hbv)
                    clear hbv LG HB Cw
                    have xat := HC.out.at c _ XCh.out; have Cl := HC.out.lt
                    go_wp2_with (fail)
                    go_roundw
                    case rel => (first | exact ⟨t + 1, HTN.out, by go_num, LG_, HB_⟩ | ((repeat apply Exists.intro); exact ⟨⟨t + 1, HTN.out, by go_num, LG_, HB_⟩, rfl⟩))
                    case measure => (have := HTN.out; simp [intOf]; omega)
                  · obtain rfl : t = ni := by omega
                    clear ht htn
                    go_wp2_with (fail)
                    go_roundw
                    case rel => (first | exact ⟨c + 1, HC3.out, by go_num, LG, HB⟩ | ((repeat apply Exists.intro); exact ⟨⟨c + 1, HC3.out, by go_num, LG, HB⟩, rfl⟩))
                    case measure => (have := HC3.out; simp [intOf]; omega)
          · obtain rfl : c = 3 := by omega
            clear hc hc3
            go_wp2_with (fail)
            go_roundw
            case rel => (first | exact ⟨i + 1, by omega, HLT.out, by go_num, LG, HB⟩ | ((repeat apply Exists.intro); exact ⟨⟨i + 1, by omega, HLT.out, by go_num, LG, HB⟩, rfl⟩))
            case measure => (have := HLT.out; simp [intOf]; omega)
      · obtain rfl : i = K := by omega
        clear hlt hi
        go_wp2_with (fail)
        go_at_call 14
        refine (works_any _).mono ?_
        rintro e y1 ⟨rfl, hb⟩
        have HB2 := Lib.hid (Below.go HB.out hb)
        clear hb
        go_wp2_with (fail)
        go_ret
        exact ⟨rfl, HB2.out⟩
  · have hd : (z != 0) = true := by simpa using hz
    have hK : K = 0 := LG.out.n (by rw [EZ.out]; exact hz)
    subst hK
    clear hz
    go_wp2_with (fail)
    go_at_call 14
    refine (works_any _).mono ?_
    rintro e y1 ⟨rfl, hb⟩
    have HB2 := Lib.hid (Below.go HB.out hb)
    clear hb
    go_wp2_with (fail)
    go_ret
    exact ⟨rfl, HB2.out⟩
end Go.Proofs.Ytbhdlpndmbhaiaa
