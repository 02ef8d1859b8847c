/- ZE ZF ZG, in one text. -/
import Derived.Test.YtbhdlpndmbhaiaaMUB
import Derived.Test.YtbhdlpndmbhaiaaZM
import Derived.Lib.Hide
import Derived.LoopN
import Derived.LoopTactic
import Derived.Deep.Onto
import Derived.Deep.RegionHeld3
import Derived.Deep.QuietTactic
import Derived.BigQuiet
import Derived.StillTailTactics
import Derived.Lib.SliceRun
/- ZE -/
namespace Go.Proofs.Ytbhdlpndmbhaiaa
set_option linter.unusedVariables false
set_option maxRecDepth 2000
set_option linter.unusedSimpArgs false
open Go.RowKit
/-- a level that has been told: the first one, or an own row -/
def LvT (A : Nat) (T : Txr) (j : Nat) (M : Txr) (W : World) : Prop := (j = 0 ∧ M = T) ∨ (RowT M W ∧ Away A M)
theorem LvT.later {A j : Nat} {T M : Txr} {W W' : World} (h : LvT A T j M W) (hb : Below W.heap.size W W') : LvT A T j M W' := h.elim .inl fun h => .inr ⟨h.1.later hb, h.2⟩
theorem LvT.far {A j : Nat} {T M : Txr} {W : World} {vs : List Value} (h : LvT A T j M W) : LvT A T j M (W.setCells A 0 vs) := h.elim .inl fun h => .inr ⟨h.1.far h.2, h.2⟩
theorem LvT.grown {A j : Nat} {T M : Txr} {W W' : World} {row : Option Nat} {base' n' s' : Nat} {e' : TypeId} {v' : Value} {xs' : List Value} (h : LvT A T j M W) (hg : W.grownBy W' row) (hv : row = v'.ownBlock) (hr' : W.ownsRow base' e' s' v' n' xs') (he : 50 ≠ e') : LvT A T j M W' := h.elim .inl fun h => .inr ⟨h.1.grown hg hv hr' he, h.2⟩
theorem LvT.at {A j : Nat} {T M : Txr} {W : World} (h : LvT A T j M W) (hT : TxAt T W) : TxAt M W := by
  rcases h with ⟨_, rfl⟩ | h
  · exact hT
  · exact h.1.at
set_option maxHeartbeats 8000000 in
theorem RLevels_no (M : Txr) (w : World) (hM : TxAt M w) (hz : chkT M.S M.n M.f ≠ 0) :
    Calls Try.prog 21 #[.agg #[.int .i64 M.S, .slice M.q M.n M.c]] w fun e w' => e = .returned (.tuple #[.slice none 0 0, .int .i64 (chkT M.S M.n M.f)]) ∧ Below w.heap.size w w' := by
  have HM := Lib.hid hM
  have CK := Lib.hid (RCheck_any M)
  obtain ⟨S, q, n, c, f⟩ := M
  dsimp only at *
  generalize chkT S n f = z at *
  have hd : (z != 0) = true := by simpa using hz
  clear hM hz
  go_enter Try.func21, Try.ntmps21
  go_upto_region 1 with fail
  obtain ⟨W0, hW⟩ : ∃ W0, W0 = (w.alloc (.cells #[.int .i64 S, .slice q n c] 24)) := ⟨_, rfl⟩
  have hB0 : Below w.heap.size w W0 := hW ▸ (Below.al (Below.refl _ _))
  have HA : Hid (Own w.heap.size [.int .i64 S, .slice q n c] W0) := Lib.hid (hW ▸ (Own.newAt (by simp)))
  rw [← hW]
  clear hW
  obtain ⟨A, eA⟩ : ∃ X, X = w.heap.size := ⟨_, rfl⟩
  rw [← eA] at HA ⊢
  have AW := Lib.hid (show w.heap.size ≤ A by omega)
  clear eA
  have HM0 := Lib.hid (HM.out.later hB0)
  have A0 := HA.out.at 0 _ rfl; have A1 := HA.out.at 1 _ rfl; have Al := HA.out.lt
  go_wp2_with (fail)
  go_at_call 12
  refine (CK.out _ HM0.out).mono ?_
  rintro e w1 ⟨rfl, hb⟩
  have HA1 := Lib.hid (HA.out.later hb)
  have HB1 := Lib.hid (Below.go hB0 hb)
  clear hb hB0 HM0 HA CK A0 A1 Al
  go_wp2_with (fail)
  exact bodyPost_ret (v := .tuple #[.slice none 0 0, .int .i64 z]) (by simp [results, Try.results21, go_sem]) rfl ⟨rfl, HB1.out⟩
set_option maxHeartbeats 16000000 in
theorem RLevels_yes (M : Txr) (s : Nat) (w : World) (hM : TxAt M w) (hz : chkT M.S M.n M.f = 0) (eS : M.S = (s : Int)) (h1 : 1 ≤ s) (h16 : s ≤ 16) (hn : M.n = s * s) :
    Calls Try.prog 21 #[.agg #[.int .i64 M.S, .slice M.q M.n M.c]] w fun e w' => (∃ v K X, e = .returned (.tuple #[v, .int .i64 0]) ∧ LvOut M.f s v K X w') ∧ Below w.heap.size w w' := by
  have HM := Lib.hid hM
  have CK := Lib.hid (RCheck_any M)
  have GT := Lib.hid (hn ▸ eS ▸ tchk_good hz : GoodT (s : Int) (s * s) M.f)
  rw [hz] at CK
  obtain ⟨T, eT⟩ : ∃ T, T = M := ⟨_, rfl⟩
  have T0 : Hid (LvOk M.f s 0 T) := Lib.hid (by subst eT; exact ⟨eS, hn, rfl⟩)
  have HT : Hid (TxAt T w) := Lib.hid (by subst eT; exact hM)
  obtain ⟨S, q, n, c, f⟩ := M
  dsimp only at *
  have H16 := Lib.hid h16; have ET := Lib.hid eT
  clear hM hz eS h1 h16 hn eT
  go_enter Try.func21, Try.ntmps21
  go_upto_region 1 with fail
  obtain ⟨W0, hW⟩ : ∃ W0, W0 = (w.alloc (.cells #[.int .i64 S, .slice q n c] 24)) := ⟨_, rfl⟩
  have hB0 : Below w.heap.size w W0 := hW ▸ (Below.al (Below.refl _ _))
  have HA : Hid (Own w.heap.size [.int .i64 S, .slice q n c] W0) := Lib.hid (hW ▸ (Own.newAt (by simp)))
  rw [← hW]
  clear hW
  obtain ⟨A, eA⟩ : ∃ X, X = w.heap.size := ⟨_, rfl⟩
  rw [← eA] at HA ⊢
  have AW := Lib.hid (show w.heap.size ≤ A by omega)
  clear eA
  have HM0 := Lib.hid (HM.out.later hB0)
  have A0 := HA.out.at 0 _ rfl; have A1 := HA.out.at 1 _ rfl; have Al := HA.out.lt
  go_wp2_with (fail)
  go_at_call 12
  refine (CK.out _ HM0.out).mono ?_
  rintro e w1 ⟨rfl, hb⟩
  have HA1 := Lib.hid (HA.out.later hb)
  have HB1 := Lib.hid (Below.go hB0 hb)
  clear hb hB0 HM0 HA CK A0 A1 Al
  have A0 := HA1.out.at 0 _ rfl; have A1 := HA1.out.at 1 _ rfl; have Al := HA1.out.lt
  obtain ⟨i0, hi, hz0, hz1, hz2⟩ := infoT_parts
  have LA := Lib.hid HA1.out.lt
  go_wp2_with (fail)
  clear A0 A1 Al
  have ROW0 : Hid ((w1.alloc (.cells #[.int .i64 S, .slice q n c] 24)).ownsRow w1.heap.size 24 2 (.slice (some ⟨w1.heap.size, 0, none⟩) 1 1) 1 (cellsX (fun _ => T) 1)) := Lib.hid (by rw [ET.out]; exact World.ownsRow_lit w1 #[.int .i64 S, .slice q n c] 1 (Nat.le_refl _) (by decide) rfl)
  have HA2 : Hid (Own A [.int .i64 T.S, .slice T.q T.n T.c] (w1.alloc (.cells #[.int .i64 S, .slice q n c] 24))) := Lib.hid (by rw [ET.out]; exact HA1.out.alloc)
  have HB2 := Lib.hid (Below.al (o := .cells #[.int .i64 S, .slice q n c] 24) HB1.out)
  have HZ2 : Hid (w1.heap.size ≤ (w1.alloc (.cells #[.int .i64 S, .slice q n c] 24)).heap.size) := Lib.hid (by simp)
  have WB := Lib.hid HB1.out.size
  go_loopw [5] (fun v wr => ∃ (k : Nat) (X : Nat → Txr) (p : Option Addr) (d : Nat), v = .slice p (k + 1) d ∧ Hid (Own A [.int .i64 (X k).S, .slice (X k).q (X k).n (X k).c] wr) ∧ Hid (wr.ownsRow w1.heap.size 24 2 (.slice p (k + 1) d) (k + 1) (cellsX X (k + 1))) ∧ Hid (∀ j, j ≤ k → LvT A T j (X j) wr) ∧ Hid (∀ j, j ≤ k → LvOk f s j (X j)) ∧ Hid (∀ j, j < k → 2 ≤ sdF s j) ∧ Hid (Below w.heap.size w wr) ∧ Hid (w1.heap.size ≤ wr.heap.size)) (fun _ wr => (intOf ((wr.cell? ⟨A, 0, none⟩).getD undef)).toNat)
  case atStart => exact ⟨0, fun _ => T, _, _, rfl, HA2, ROW0, Lib.hid (fun j hj => .inl ⟨Nat.le_zero.1 hj, rfl⟩), Lib.hid (fun j hj => by obtain rfl := Nat.le_zero.1 hj; exact T0.out), Lib.hid (fun j hj => absurd hj (Nat.not_lt_zero j)), HB2, HZ2⟩
  case round =>
    clear ROW0 HA2 HB2 HZ2 HA1
    obtain ⟨k, X, p, d, rfl, HA, ROW, HL, HO, HS, HB, HZ⟩ := hrel
    have G := lv_good GT.out k HS.out
    have eS := (HO.out k (Nat.le_refl _)).S
    have c0 := HA.out.at 0 _ rfl; have c1 := HA.out.at 1 _ rfl; have cl := HA.out.lt
    have C0 := Lib.hid c0
    by_cases h2 : 2 ≤ sdF s k
    · have hc : (1 : Int) < (X k).S := by omega
      have two := sd_two G h2
      have k4 := few_lv (k := k) H16.out (by omega)
      have HXk : TxAt (X k) wr := (HL.out k (Nat.le_refl _)).at (HT.out.later HB.out)
      have oo := HO.out k (Nat.le_refl _)
      have HH := Lib.hid (RHalf_yes (X k) (sdF s k) (sdF s (k + 1)) wr HXk (by rw [oo.S, oo.n, oo.f]; exact good_tchk G) oo.S two.1 two.2.1 two.2.2 oo.n)
      have TW := Lib.hid two; have H2 := Lib.hid h2; have K4 := Lib.hid k4
      clear G eS h2 two k4 HXk oo
      go_wp2_with (fail)
      go_at_call 19
      refine HH.out.mono ?_
      rintro e w3 ⟨p3, d3, rfl, hr, hb⟩
      clear c0 c1 cl HH
      have m1 : 1 ≤ sdF s (k + 1) * sdF s (k + 1) := Nat.mul_le_mul TW.out.2.1 TW.out.2.1
      obtain ⟨Y, eY⟩ : ∃ Y : Txr, Y = ⟨sdF s (k + 1), p3, sdF s (k + 1) * sdF s (k + 1), d3, hlfF (X k).f (sdF s k) (sdF s (k + 1))⟩ := ⟨_, rfl⟩
      have YR : Hid (RowT Y w3) := Lib.hid (by subst eY; exact ⟨m1, _, hr⟩)
      have YA : Hid (Away A Y) := Lib.hid (by subst eY; exact row_ne hr HA.out.lt)
      have YO : Hid (LvOk f s (k + 1) Y) := Lib.hid (by subst eY; exact ⟨rfl, rfl, by show hlfF (X k).f _ _ = hlfF (lvF f s k) _ _; rw [(HO.out k (Nat.le_refl _)).f]⟩)
      have y0 : ((sdF s (k + 1) : Nat) : Int) = Y.S := by subst eY; rfl
      have y1 : (Value.slice p3 (sdF s (k + 1) * sdF s (k + 1)) d3) = .slice Y.q Y.n Y.c := by subst eY; rfl
      rw [y0, y1]
      have HA3 := Lib.hid (HA.out.later hb); have ROW3 := Lib.hid (row_later ROW.out hb); have HL3 : Hid (∀ j, j ≤ k → LvT A T j (X j) w3) := Lib.hid (fun j hj => (HL.out j hj).later hb)
      have HB3 := Lib.hid (Below.go HB.out hb); have HZ3 : Hid (w1.heap.size ≤ w3.heap.size) := Lib.hid (Nat.le_trans HZ.out hb.size)
      clear hr hb eY y0 y1 m1 HA ROW HL HB HZ
      have e0 := HA3.out.at 0 _ rfl; have ef0 := HA3.out.ok 0 (by simp); have e1 := HA3.out.at 1 _ rfl; have ef1 := HA3.out.ok 1 (by simp); have el := HA3.out.lt
      go_upto_region 7 with fail
      clear e0 ef0 e1 ef1 el
      rw [show (w3.setCell ⟨A, 0, none⟩ (.int .i64 Y.S)).setCell ⟨A, 1, none⟩ (.slice Y.q Y.n Y.c) = w3.setCells A 0 [.int .i64 Y.S, .slice Y.q Y.n Y.c] from rfl]
      have HA4 : Hid (Own A [.int .i64 Y.S, .slice Y.q Y.n Y.c] (w3.setCells A 0 [.int .i64 Y.S, .slice Y.q Y.n Y.c])) := Lib.hid (Own.store HA3.out rfl)
      have ROW4 := Lib.hid (row_far ROW3.out (row_ne ROW3.out LA.out) 0 [.int .i64 Y.S, .slice Y.q Y.n Y.c])
      have HL4 : Hid (∀ j, j ≤ k → LvT A T j (X j) (w3.setCells A 0 [.int .i64 Y.S, .slice Y.q Y.n Y.c])) := Lib.hid (fun j hj => (HL3.out j hj).far)
      have YR4 := Lib.hid (YR.out.far (vs := [.int .i64 Y.S, .slice Y.q Y.n Y.c]) YA.out)
      have HB4 := Lib.hid (Below.setCells HB3.out AW.out [.int .i64 Y.S, .slice Y.q Y.n Y.c] 0)
      have HZ4 : Hid (w1.heap.size ≤ (w3.setCells A 0 [.int .i64 Y.S, .slice Y.q Y.n Y.c]).heap.size) := Lib.hid (by rw [size_setCells]; exact HZ3.out)
      clear HA3 ROW3 HL3 HB3 HZ3 YR
      generalize w3.setCells A 0 [.int .i64 Y.S, .slice Y.q Y.n Y.c] = w4 at *
      have e0 := HA4.out.at 0 _ rfl; have e1 := HA4.out.at 1 _ rfl; have el := HA4.out.lt
      have N63 := Lib.hid (show k + 1 + 1 ≤ maxLen by have := K4.out; unfold maxLen; omega)
      have NBY := Lib.hid (show (k + 1 + 1) * 32 ≤ 140737488355328 by have := K4.out; omega)
      have HSz : Hid (w1.heap.size ≤ (w4.alloc (.cells #[.int .i64 Y.S, .slice Y.q Y.n Y.c] 24)).heap.size) := Lib.hid (by have := HZ4.out; simp; omega)
      go_wp2_with (at_builtin; refine wpList_append_own _ rfl _ _ 45 rfl w1.heap.size 24 i0 (.agg #[.int .i64 0, .slice none 0 0]) 2 32 Try.underlying45 hi hz0 hz1 hz2 rfl (by decide) _ (k + 1) _ rfl (row_later ROW4.out (Below.al (Below.refl _ _))) ⟨w4.heap.size, 0, none⟩ 1 1 [.int .i64 Y.S, .slice Y.q Y.n Y.c] rfl rfl (Own.newAt (by rfl)).news (by simp [Value.oneCell']) N63.out NBY.out HSz.out ?_; intro v' z6 hrow hgr _; obtain ⟨p4, c4, rfl, _⟩ := row_form hrow; have o6 := Lib.hid hrow; have og : Hid ((w4.alloc (.cells #[.int .i64 Y.S, .slice Y.q Y.n Y.c] 24)).grownBy z6 (Value.slice p (k + 1) d).ownBlock) := Lib.hid hgr; clear hrow hgr)
      have RA := row_later ROW4.out (Below.al (o := .cells #[.int .i64 Y.S, .slice Y.q Y.n Y.c] 24) (Below.refl _ _))
      have al : Below w4.heap.size w4 (w4.alloc (.cells #[.int .i64 Y.S, .slice Y.q Y.n Y.c] 24)) := Below.al (Below.refl _ _)
      have HA6 := Lib.hid (((HA4.out.later al).grown og.out (row_ne RA LA.out)))
      have YR6 := Lib.hid ((YR4.out.later al).grown og.out rfl RA (by decide))
      have HL6 : Hid (∀ j, j ≤ k → LvT A T j (X j) z6) := Lib.hid (fun j hj => ((HL4.out j hj).later al).grown og.out rfl RA (by decide))
      have HB6 : Hid (Below w.heap.size w z6) := Lib.hid ((Below.go HB4.out al).grown og.out (Below.go HB4.out al).size fun q hq => Nat.le_trans WB.out (row_ge RA q hq))
      have HZ6 : Hid (w1.heap.size ≤ z6.heap.size) := Lib.hid (Nat.le_trans HSz.out og.out.size)
      have hS6 : (z6.cell? ⟨A, 0, none⟩) = some (.int .i64 Y.S) := HA6.out.at 0 _ rfl
      clear RA al HA4 YR4 HL4 HB4 HZ4 ROW4 og e0 e1 el HSz
      have ux : updX X (k + 1) Y (k + 1) = Y := updX_same _ _ _
      go_roundw
      case rel =>
        have R7 : Hid (∃ (k_1 : Nat) (X_1 : Nat → Txr) (p_1 : Option Addr) (d_1 : Nat), Value.slice p4 (k + 1 + 1) c4 = .slice p_1 (k_1 + 1) d_1 ∧ Hid (Own A [.int .i64 (X_1 k_1).S, .slice (X_1 k_1).q (X_1 k_1).n (X_1 k_1).c] z6) ∧ Hid (z6.ownsRow w1.heap.size 24 2 (.slice p_1 (k_1 + 1) d_1) (k_1 + 1) (cellsX X_1 (k_1 + 1))) ∧ Hid (∀ j, j ≤ k_1 → LvT A T j (X_1 j) z6) ∧ Hid (∀ j, j ≤ k_1 → LvOk f s j (X_1 j)) ∧ Hid (∀ j, j < k_1 → 2 ≤ sdF s j) ∧ Hid (Below w.heap.size w z6) ∧ Hid (w1.heap.size ≤ z6.heap.size)) := Lib.hid ⟨k + 1, updX X (k + 1) Y, p4, c4, rfl, by rw [ux]; exact HA6, Lib.hid (by rw [← cellsX_upd]; exact o6.out), Lib.hid (fun j hj => by
          by_cases hjk : j = k + 1
          · rw [hjk, ux]; exact .inr ⟨YR6.out, YA.out⟩
          · rw [updX_other hjk]; exact HL6.out j (by omega)), Lib.hid (fun j hj => by
          by_cases hjk : j = k + 1
          · rw [hjk, ux]; exact YO.out
          · rw [updX_other hjk]; exact HO.out j (by omega)), Lib.hid (fun j hj => by
          rcases Nat.lt_or_ge j k with h | h
          · exact HS.out j h
          · obtain rfl : j = k := by omega
            exact H2.out), HB6, HZ6⟩
        first | exact R7.out | ((repeat apply Exists.intro); exact ⟨R7.out, rfl⟩)
      case measure =>
        rw [hS6, C0.out]
        have := YO.out.S; have := (HO.out k (Nat.le_refl _)).S; have := TW.out.1; have := TW.out.2.1
        simp [intOf]
        omega
    · have hc : decide ((1 : Int) < (X k).S) = false := decide_eq_false (by omega)
      have h1 : sdF s k = 1 := by have := G.s; omega
      have HLK : Hid (LastK s (k + 1)) := Lib.hid ⟨by omega, h1, fun j hj => HS.out j (by omega)⟩
      clear G eS h2 h1
      have cap := row_cap_ ROW.out
      obtain ⟨g, rfl, hh⟩ : ∃ g, p = some ⟨g, 0, none⟩ ∧ Has g 0 (cellsX X (k + 1)) wr := by
        rcases ROW.out.2 with ⟨_, h0⟩ | ⟨g, cap, _, hv, _⟩
        · omega
        · have e : p = some ⟨g, 0, none⟩ := by injection hv
          subst e
          exact ⟨g, rfl, (row_has' ROW.out).1⟩
      have HH := Lib.hid hh; have CAP := Lib.hid cap
      clear hh cap
      go_wp2_with (fail)
      refine bodyPost_ret (v := .tuple #[.slice (some ⟨g, 0, none⟩) (k + 1) d, .int .i64 0]) (by simp [results, Try.results21, go_sem]) rfl ⟨⟨_, k + 1, X, rfl, ⟨⟨g, d, rfl, CAP.out.1, CAP.out.2, HH.out⟩, HLK.out, fun j hj => ⟨?_, HO.out j (by omega)⟩⟩⟩, HB.out⟩
      exact (HL.out j (by omega)).at (HT.out.later HB.out)
end Go.Proofs.Ytbhdlpndmbhaiaa

/- ZF -/
namespace Go.Proofs.Ytbhdlpndmbhaiaa
set_option linter.unusedVariables false
set_option maxRecDepth 2000
set_option linter.unusedSimpArgs false
open Go.RowKit
/-- what Half tells of a texture: its side, its count -/
def hfS (M : Txr) : Nat := if hlfE M.S (chkT M.S M.n M.f) = 0 then M.S.toNat / 2 else 0
structure HlfO (M Z : Txr) : Prop where
  S : Z.S = (hfS M : Int)
  n : Z.n = hfS M * hfS M
  f : ∀ j, j < Z.n * 3 → Z.f j = hlfF M.f M.S.toNat (M.S.toNat / 2) j
theorem hfS_le (M : Txr) : hfS M * hfS M ≤ 64 := by
  unfold hfS
  split
  · rename_i h
    have hc : chkT M.S M.n M.f = 0 := by
      unfold hlfE at h
      split at h
      · assumption
      · exact h
    have g := (tchk_good hc).s
    have : M.S.toNat / 2 ≤ 8 := by omega
    exact Nat.mul_le_mul this this
  · decide
theorem half_split (M : Txr) : hlfE M.S (chkT M.S M.n M.f) ≠ 0 ∨ ∃ s h : Nat, hlfE M.S (chkT M.S M.n M.f) = 0 ∧ chkT M.S M.n M.f = 0 ∧ M.S = (s : Int) ∧ s = 2 * h ∧ 1 ≤ h ∧ h ≤ 8 ∧ M.n = s * s ∧ hfS M = h ∧ M.S.toNat = s ∧ M.S.toNat / 2 = h := by
  by_cases hz : hlfE M.S (chkT M.S M.n M.f) = 0
  · refine .inr ?_
    have hz' := hz
    unfold hlfE at hz
    by_cases hc : chkT M.S M.n M.f = 0
    · rw [if_pos hc] at hz
      have h1 : ¬M.S = 1 := fun h => by rw [if_pos h] at hz; exact absurd hz (by decide)
      obtain ⟨s, e1, e2, e3⟩ := (tchk_good hc).cnt
      refine ⟨s, s / 2, hz', hc, e1, by omega, by omega, by omega, e3, ?_, by omega, by omega⟩
      unfold hfS
      rw [if_pos hz']
      omega
    · rw [if_neg hc] at hz
      exact absurd hz hc
  · exact .inl hz
theorem hfS_no {M : Txr} (h : hlfE M.S (chkT M.S M.n M.f) ≠ 0) : hfS M = 0 := if_neg h
theorem zero_tx (W : World) : TxAt ⟨0, none, 0, 0, fun _ => 0⟩ W := ⟨.inl rfl, Nat.le_refl _, by decide⟩
theorem row_at {W : World} {base n d : Nat} {p : Option Addr} {G : Nat → Int} (S : Int) (h : W.ownsRow base 50 3 (.slice p n d) n (nums .i64 G (n * 3))) (h1 : 1 ≤ n) : TxAt ⟨S, p, n, d, G⟩ W := RowT.at ⟨h1, _, h⟩
theorem Half_out (M : Txr) (w : World) (hM : TxAt M w) : Calls Try.prog 18 #[.agg #[.int .i64 M.S, .slice M.q M.n M.c]] w fun e w' => (∃ Z : Txr, e = .returned (.tuple #[.agg #[.int .i64 Z.S, .slice Z.q Z.n Z.c], .int .i64 (hlfE M.S (chkT M.S M.n M.f))]) ∧ TxAt Z w' ∧ HlfO M Z) ∧ Below w.heap.size w w' := by
  rcases half_split M with h | ⟨s, h, e0, e1, e2, e3, e4, e5, e6, e7, e8, e9⟩
  · refine (Half_no M w hM h).mono ?_
    rintro e w' ⟨rfl, hb⟩
    exact ⟨⟨⟨0, none, 0, 0, fun _ => 0⟩, rfl, zero_tx _, by show (0 : Int) = _; rw [hfS_no h]; rfl, by show 0 = _; rw [hfS_no h], fun j hj => absurd hj (Nat.not_lt_zero j)⟩, hb⟩
  · refine (Half_yes M s h w hM e1 e2 e3 e4 e5 e6).mono ?_
    rintro e w' ⟨p, d, rfl, hr, hb⟩
    rw [e0]
    exact ⟨⟨⟨h, p, h * h, d, hlfF M.f s h⟩, rfl, row_at _ hr (Nat.mul_le_mul e4 e4), by rw [e7], by rw [e7], fun j _ => by rw [e8, show s / 2 = h by omega]⟩, hb⟩
theorem RHalf_out (M : Txr) (w : World) (hM : TxAt M w) : Calls Try.prog 19 #[.agg #[.int .i64 M.S, .slice M.q M.n M.c]] w fun e w' => (∃ Z : Txr, e = .returned (.tuple #[.agg #[.int .i64 Z.S, .slice Z.q Z.n Z.c], .int .i64 (hlfE M.S (chkT M.S M.n M.f))]) ∧ TxAt Z w' ∧ HlfO M Z) ∧ Below w.heap.size w w' := by
  rcases half_split M with h | ⟨s, h, e0, e1, e2, e3, e4, e5, e6, e7, e8, e9⟩
  · refine (RHalf_no M w hM h).mono ?_
    rintro e w' ⟨rfl, hb⟩
    exact ⟨⟨⟨0, none, 0, 0, fun _ => 0⟩, rfl, zero_tx _, by show (0 : Int) = _; rw [hfS_no h]; rfl, by show 0 = _; rw [hfS_no h], fun j hj => absurd hj (Nat.not_lt_zero j)⟩, hb⟩
  · refine (RHalf_yes M s h w hM e1 e2 e3 e4 e5 e6).mono ?_
    rintro e w' ⟨p, d, rfl, hr, hb⟩
    rw [e0]
    exact ⟨⟨⟨h, p, h * h, d, hlfF M.f s h⟩, rfl, row_at _ hr (Nat.mul_le_mul e4 e4), by rw [e7], by rw [e7], fun j _ => by rw [e8, show s / 2 = h by omega]⟩, hb⟩
/-- what Levels tells -/
structure LvG (M : Txr) (p : Option Addr) (K d : Nat) (X : Nat → Txr) (W : World) : Prop where
  k : K ≤ d
  m : d ≤ 9223372036854775807
  c : ∀ i, i < K → ∃ D, p = some ⟨D, 0, none⟩ ∧ D < W.heap.size ∧ W.cell? ⟨D, i * 2, none⟩ = some (.int .i64 (X i).S) ∧ W.cell? ⟨D, i * 2 + 1, none⟩ = some (.slice (X i).q (X i).n (X i).c)
  x : ∀ i, i < K → TxAt (X i) W ∧ LvOk M.f M.S.toNat i (X i)
  n : chkT M.S M.n M.f ≠ 0 → K = 0
  y : chkT M.S M.n M.f = 0 → LastK M.S.toNat K ∧ GoodT (M.S.toNat : Int) (M.S.toNat * M.S.toNat) M.f
theorem LvG.later {M : Txr} {p : Option Addr} {K d : Nat} {X : Nat → Txr} {W W' : World} (h : LvG M p K d X W) (hb : Below W.heap.size W W') : LvG M p K d X W' :=
  ⟨h.k, h.m, fun i hi => by
    obtain ⟨D, e, hD, c0, c1⟩ := h.c i hi
    exact ⟨D, e, Nat.lt_of_lt_of_le hD hb.size, (hb.cell (p := ⟨D, i * 2, none⟩) hD).trans c0, (hb.cell (p := ⟨D, i * 2 + 1, none⟩) hD).trans c1⟩, fun i hi => ⟨(h.x i hi).1.later hb, (h.x i hi).2⟩, h.n, h.y⟩
theorem LvG.uniq {M : Txr} {p p' : Option Addr} {K d K' d' : Nat} {X X' : Nat → Txr} {W W' : World} (h : LvG M p K d X W) (h' : LvG M p' K' d' X' W') : K = K' := by
  by_cases hz : chkT M.S M.n M.f = 0
  · exact (h.y hz).1.uniq (h'.y hz).1
  · rw [h.n hz, h'.n hz]
theorem LvG.small {M : Txr} {p : Option Addr} {K d : Nat} {X : Nat → Txr} {W : World} (h : LvG M p K d X W) : K ≤ 5 := by
  by_cases hz : chkT M.S M.n M.f = 0
  · obtain ⟨⟨h1, h2, _⟩, g⟩ := h.y hz
    have := few_lv (s := M.S.toNat) (k := K - 1) (by have := g.s; omega) (by omega)
    omega
  · rw [h.n hz]; decide
theorem lv_none (M : Txr) (hz : chkT M.S M.n M.f ≠ 0) (W : World) : LvG M none 0 0 (fun _ => M) W := ⟨Nat.le_refl _, by decide, fun i hi => absurd hi (Nat.not_lt_zero i), fun i hi => absurd hi (Nat.not_lt_zero i), fun _ => rfl, fun h => absurd h hz⟩
theorem lv_some {M : Txr} {s : Nat} {v : Value} {K : Nat} {X : Nat → Txr} {W : World} (hz : chkT M.S M.n M.f = 0) (eS : M.S = (s : Int)) (hn : M.n = s * s) (h : LvOut M.f s v K X W) : ∃ p d, v = .slice p K d ∧ LvG M p K d X W := by
  obtain ⟨g, c, rfl, h1, h2, h3⟩ := h.r
  have e : M.S.toNat = s := by omega
  refine ⟨_, c, rfl, h1, h2, fun i hi => ⟨g, rfl, h3.lt, ?_, ?_⟩, ?_, fun hn => absurd hz hn, fun _ => ?_⟩
  · have := h3.at _ _ (cellsX_at X hi).1
    rwa [Nat.zero_add] at this
  · have := h3.at _ _ (cellsX_at X hi).2
    rwa [Nat.zero_add] at this
  · rw [e]; exact h.x
  · rw [e]; exact ⟨h.k, hn ▸ eS ▸ tchk_good hz⟩
theorem Levels_out (M : Txr) (w : World) (hM : TxAt M w) : Calls Try.prog 20 #[.agg #[.int .i64 M.S, .slice M.q M.n M.c]] w fun e w' => (∃ p K d X, e = .returned (.tuple #[.slice p K d, .int .i64 (chkT M.S M.n M.f)]) ∧ LvG M p K d X w') ∧ Below w.heap.size w w' := by
  by_cases hz : chkT M.S M.n M.f = 0
  · obtain ⟨s, e1, e2, e3⟩ := (tchk_good hz).cnt
    refine (Levels_yes M s w hM hz e1 (by omega) (by omega) e3).mono ?_
    rintro e w' ⟨⟨v, K, X, rfl, h⟩, hb⟩
    obtain ⟨p, d, rfl, hg⟩ := lv_some hz e1 e3 h
    exact ⟨⟨p, K, d, X, by rw [hz], hg⟩, hb⟩
  · refine (Levels_no M w hM hz).mono ?_
    rintro e w' ⟨rfl, hb⟩
    exact ⟨⟨none, 0, 0, fun _ => M, rfl, lv_none M hz _⟩, hb⟩
theorem RLevels_out (M : Txr) (w : World) (hM : TxAt M w) : Calls Try.prog 21 #[.agg #[.int .i64 M.S, .slice M.q M.n M.c]] w fun e w' => (∃ p K d X, e = .returned (.tuple #[.slice p K d, .int .i64 (chkT M.S M.n M.f)]) ∧ LvG M p K d X w') ∧ Below w.heap.size w w' := by
  by_cases hz : chkT M.S M.n M.f = 0
  · obtain ⟨s, e1, e2, e3⟩ := (tchk_good hz).cnt
    refine (RLevels_yes M s w hM hz e1 (by omega) (by omega) e3).mono ?_
    rintro e w' ⟨⟨v, K, X, rfl, h⟩, hb⟩
    obtain ⟨p, d, rfl, hg⟩ := lv_some hz e1 e3 h
    exact ⟨⟨p, K, d, X, by rw [hz], hg⟩, hb⟩
  · refine (RLevels_no M w hM hz).mono ?_
    rintro e w' ⟨rfl, hb⟩
    exact ⟨⟨none, 0, 0, fun _ => M, rfl, lv_none M hz _⟩, hb⟩
end Go.Proofs.Ytbhdlpndmbhaiaa

/- ZG -/
namespace Go.Proofs.Ytbhdlpndmbhaiaa
set_option linter.unusedVariables false
set_option maxRecDepth 2000
set_option linter.unusedSimpArgs false
open Go.RowKit
attribute [local go_sem ↓] eq3_run neq3_run
theorem LvG.sd {M : Txr} {p : Option Addr} {K d i : Nat} {X : Nat → Txr} {W : World} (h : LvG M p K d X W) (hi : i < K) : (X i).n ≤ 256 := by
  have hz : chkT M.S M.n M.f = 0 := Classical.byContradiction fun hz => by have := h.n hz; omega
  have g := (h.y hz).2
  have h1 := sd_pow M.S.toNat (by have := g.s; omega) i
  have h2 : sdF M.S.toNat i ≤ 16 := Nat.le_trans (Nat.le_mul_of_pos_right _ (Nat.pow_pos (by decide))) h1
  rw [(h.x i hi).2.n]
  exact Nat.mul_le_mul h2 h2
theorem zero3 (w : World) : (Instr.build 50 #[]).run Try.prog w = .ok (.agg #[.int .i64 0, .int .i64 0, .int .i64 0]) w := by kernel_rfl
set_option maxHeartbeats 16000000 in
theorem Levels_law (M : Txr) (x y : Int) (w : World) (hM : TxAt M w) : Calls Try.prog 5 #[.agg #[.int .i64 M.S, .slice M.q M.n M.c], .int .i64 x, .int .i64 y] w fun e w' => e = .returned (.bool true) ∧ Below w.heap.size w w' := by
  have HM := Lib.hid hM
  clear hM
  go_enter Try.func5, Try.ntmps5
  go_upto_region 1 with fail
  obtain ⟨W0, hW⟩ : ∃ W0, W0 = (w.alloc (.cells #[.int .i64 M.S, .slice M.q M.n M.c] 24)) := ⟨_, rfl⟩
  have hB0 : Below w.heap.size w W0 := hW ▸ (Below.al (Below.refl _ _))
  have HA : Hid (Own w.heap.size [.int .i64 M.S, .slice M.q M.n M.c] W0) := Lib.hid (hW ▸ (Own.newAt (by simp)))
  rw [← hW]
  clear hW
  obtain ⟨A, eA⟩ : ∃ X, X = w.heap.size := ⟨_, rfl⟩
  rw [← eA] at HA ⊢
  have Aw : w.heap.size ≤ A := by omega
  clear eA
  have HM0 := Lib.hid (HM.out.later hB0)
  have oA := HA.out
  have A0 := oA.at 0 _ rfl
  have A1 := oA.at 1 _ rfl
  have Al := oA.lt
  clear oA
  go_wp2_with (fail)
  go_at_call 8
  refine (few_tex M _ HM0.out).mono ?_
  rintro e w1 ⟨rfl, hb⟩
  have HA1 := Lib.hid (HA.out.later hb); have HB1 := Lib.hid (Below.go hB0 hb)
  have HY := Lib.hid (fewT_at HM.out)
  have YN := Lib.hid (fewT_n M)
  clear hb hB0 HM HM0 HA A0 A1 Al
  generalize fewT M = Y at *
  have oA := HA1.out
  have A0 := oA.at 0 _ rfl
  have Af0 := oA.ok 0 (by simp)
  have A1 := oA.at 1 _ rfl
  have Af1 := oA.ok 1 (by simp)
  have Al := oA.lt
  clear oA
  go_upto_region 2 with fail
  clear A0 A1 Af0 Af1 Al
  rw [show ((w1.setCell ⟨A, 0, none⟩ (.int .i64 Y.S)).setCell ⟨A, 1, none⟩ (.slice Y.q Y.n Y.c)) = w1.setCells A 0 [.int .i64 Y.S, .slice Y.q Y.n Y.c] from rfl]
  have HA : Hid (Own A [.int .i64 Y.S, .slice Y.q Y.n Y.c] (w1.setCells A 0 [.int .i64 Y.S, .slice Y.q Y.n Y.c])) := Lib.hid (Own.store HA1.out rfl)
  have HB : Hid (Below w.heap.size w (w1.setCells A 0 [.int .i64 Y.S, .slice Y.q Y.n Y.c])) := Lib.hid (Below.setCells HB1.out Aw _ _)
  clear HA1 HB1
  generalize w1.setCells A 0 [.int .i64 Y.S, .slice Y.q Y.n Y.c] = w2 at *
  have CH := Lib.hid (Half_out Y); have RH := Lib.hid (RHalf_out Y); have CL := Lib.hid (Levels_out Y); have RL := Lib.hid (RLevels_out Y)
  have h64 := Lib.hid (hfS_le Y)
  obtain ⟨z1, ez1⟩ : ∃ z, hlfE Y.S (chkT Y.S Y.n Y.f) = z := ⟨_, rfl⟩
  rw [ez1] at CH RH
  clear ez1
  have oA := HA.out
  have A0 := oA.at 0 _ rfl
  have A1 := oA.at 1 _ rfl
  have Al := oA.lt
  clear oA
  go_wp2_with (fail)
  go_at_call 18
  refine (CH.out _ (HY.out.later HB.out)).mono ?_
  rintro e w3 ⟨⟨Z, rfl, hz, hzo⟩, hb⟩
  have HA_ := Lib.hid (HA.out.later hb)
  have HB_ := Lib.hid (Below.go HB.out hb)
  have TZ := Lib.hid hz; have ZO := Lib.hid hzo
  clear hz hzo
  clear hb HB HA
  have HA := HA_
  clear HA_
  have HB := HB_
  clear HB_
  clear A0 A1 Al
  clear CH
  go_upto_region 3 with fail
  obtain ⟨w4, hW⟩ : ∃ w4, w4 = (w3.alloc (.cells #[.int .i64 Z.S, .slice Z.q Z.n Z.c] 24)) := ⟨_, rfl⟩
  have hb4 : Below w3.heap.size w3 w4 := hW ▸ (Below.al (Below.refl _ _))
  have HP : Hid (Own w3.heap.size [.int .i64 Z.S, .slice Z.q Z.n Z.c] w4) := Lib.hid (hW ▸ (Own.newAt (by simp)))
  rw [← hW]
  clear hW
  obtain ⟨P, eP⟩ : ∃ X, X = w3.heap.size := ⟨_, rfl⟩
  rw [← eP] at HP ⊢
  have Pw : w3.heap.size ≤ P := by omega
  clear eP
  have HB_ := Lib.hid (Below.go HB.out hb4)
  clear HB
  have HB := HB_
  clear HB_
  have HA_ := Lib.hid (HA.out.later hb4)
  have TZ_ := Lib.hid (TZ.out.later hb4)
  clear HA TZ
  have HA := HA_
  clear HA_
  have TZ := TZ_
  clear TZ_
  clear hb4 Pw
  have oA := HA.out
  have A0 := oA.at 0 _ rfl
  have A1 := oA.at 1 _ rfl
  have Al := oA.lt
  clear oA
  go_wp2_with (fail)
  go_at_call 19
  refine (RH.out _ (HY.out.later HB.out)).mono ?_
  rintro e w5 ⟨⟨V, rfl, hv, hvo⟩, hb⟩
  have HA_ := Lib.hid (HA.out.later hb)
  have HP_ := Lib.hid (HP.out.later hb)
  have TZ_ := Lib.hid (TZ.out.later hb)
  have HB_ := Lib.hid (Below.go HB.out hb)
  have TV := Lib.hid hv; have VO := Lib.hid hvo
  clear hv hvo
  clear hb HB HA HP TZ
  have HA := HA_
  clear HA_
  have HP := HP_
  clear HP_
  have TZ := TZ_
  clear TZ_
  have HB := HB_
  clear HB_
  clear A0 A1 Al
  clear RH
  go_upto_region 4 with fail
  obtain ⟨w6, hW⟩ : ∃ w6, w6 = (w5.alloc (.cells #[.int .i64 V.S, .slice V.q V.n V.c] 24)) := ⟨_, rfl⟩
  have hb6 : Below w5.heap.size w5 w6 := hW ▸ (Below.al (Below.refl _ _))
  have HR : Hid (Own w5.heap.size [.int .i64 V.S, .slice V.q V.n V.c] w6) := Lib.hid (hW ▸ (Own.newAt (by simp)))
  rw [← hW]
  clear hW
  obtain ⟨R, eR⟩ : ∃ X, X = w5.heap.size := ⟨_, rfl⟩
  rw [← eR] at HR ⊢
  have Rw : w5.heap.size ≤ R := by omega
  clear eR
  have HB_ := Lib.hid (Below.go HB.out hb6)
  clear HB
  have HB := HB_
  clear HB_
  have HA_ := Lib.hid (HA.out.later hb6)
  have HP_ := Lib.hid (HP.out.later hb6)
  have TZ_ := Lib.hid (TZ.out.later hb6)
  have TV_ := Lib.hid (TV.out.later hb6)
  clear HA HP TZ TV
  have HA := HA_
  clear HA_
  have HP := HP_
  clear HP_
  have TZ := TZ_
  clear TZ_
  have TV := TV_
  clear TV_
  clear hb6 Rw
  have oA := HA.out
  have A0 := oA.at 0 _ rfl
  have A1 := oA.at 1 _ rfl
  have Al := oA.lt
  clear oA
  go_wp2_with (fail)
  go_at_call 20
  refine (CL.out _ (HY.out.later HB.out)).mono ?_
  rintro e w7 ⟨⟨p, K, d, X, rfl, hg⟩, hb⟩
  have HA_ := Lib.hid (HA.out.later hb)
  have HP_ := Lib.hid (HP.out.later hb)
  have HR_ := Lib.hid (HR.out.later hb)
  have TZ_ := Lib.hid (TZ.out.later hb)
  have TV_ := Lib.hid (TV.out.later hb)
  have HB_ := Lib.hid (Below.go HB.out hb)
  have LG := Lib.hid hg
  clear hg
  clear hb HB HA HP HR TZ TV
  have HA := HA_
  clear HA_
  have HP := HP_
  clear HP_
  have HR := HR_
  clear HR_
  have TZ := TZ_
  clear TZ_
  have TV := TV_
  clear TV_
  have HB := HB_
  clear HB_
  clear A0 A1 Al
  clear CL
  have oA := HA.out
  have A0 := oA.at 0 _ rfl
  have A1 := oA.at 1 _ rfl
  have Al := oA.lt
  clear oA
  go_wp2_with (fail)
  go_at_call 21
  refine (RL.out _ (HY.out.later HB.out)).mono ?_
  rintro e w8 ⟨⟨p2, K2, d2, X2, rfl, hg⟩, hb⟩
  have HA_ := Lib.hid (HA.out.later hb)
  have HP_ := Lib.hid (HP.out.later hb)
  have HR_ := Lib.hid (HR.out.later hb)
  have TZ_ := Lib.hid (TZ.out.later hb)
  have TV_ := Lib.hid (TV.out.later hb)
  have LG_ := Lib.hid (LG.out.later hb)
  have HB_ := Lib.hid (Below.go HB.out hb)
  have LG2 := Lib.hid hg
  clear hg
  clear hb HB HA HP HR TZ TV LG
  have HA := HA_
  clear HA_
  have HP := HP_
  clear HP_
  have HR := HR_
  clear HR_
  have TZ := TZ_
  clear TZ_
  have TV := TV_
  clear TV_
  have LG := LG_
  clear LG_
  have HB := HB_
  clear HB_
  clear A0 A1 Al
  clear RL
  obtain rfl : K = K2 := LG.out.uniq LG2.out
  have SY := Lib.hid (fun w h1 h2 => Same_yes Z V w h1 h2 (ZO.out.S.trans VO.out.S.symm) (ZO.out.n.trans VO.out.n.symm) (fun j hj => (ZO.out.f j hj).trans (VO.out.f j (by rw [VO.out.n, ← ZO.out.n]; exact hj)).symm) (by rw [ZO.out.n]; have := h64.out; omega))
  have oP := HP.out
  have P0 := oP.at 0 _ rfl
  have P1 := oP.at 1 _ rfl
  have Pl := oP.lt
  clear oP
  have oR := HR.out
  have R0 := oR.at 0 _ rfl
  have R1 := oR.at 1 _ rfl
  have Rl := oR.lt
  clear oR
  go_wp2_with (fail)
  go_at_call 17
  refine (SY.out _ TZ.out TV.out).mono ?_
  rintro e w9 ⟨rfl, hb⟩
  clear P0 P1 Pl R0 R1 Rl SY HP HR
  have HB_ := Lib.hid (Below.go HB.out hb)
  clear HB
  have HB := HB_
  clear HB_
  have HA_ := Lib.hid (HA.out.later hb)
  have LG_ := Lib.hid (LG.out.later hb)
  have LG2_ := Lib.hid (LG2.out.later hb)
  clear HA LG LG2
  have HA := HA_
  clear HA_
  have LG := LG_
  clear LG_
  have LG2 := LG2_
  clear LG2_
  clear hb TZ TV ZO VO h64
  have K5 := Lib.hid LG.out.small
  generalize z1 = z1_ at *
  obtain ⟨z, ez⟩ : ∃ z, chkT Y.S Y.n Y.f = z := ⟨_, rfl⟩
  rw [ez]
  have EZ := Lib.hid ez
  clear ez
  go_wp2_with (fail)
  go_loopw [63] (fun iv wr => ∃ (i : Nat), i ≤ K ∧ iv = .int .i64 i ∧ Hid (Own A [.int .i64 Y.S, .slice Y.q Y.n Y.c] wr) ∧ Hid (LvG Y p K d X wr) ∧ Hid (LvG Y p2 K d2 X2 wr) ∧ Hid (Below w.heap.size w wr)) (fun iv _ => (K - (intOf iv).toNat))
  case atStart => exact ⟨0, Nat.zero_le _, rfl, HA, LG, LG2, HB⟩
  case round =>
    clear HA LG LG2 HB
    obtain ⟨i, hi, rfl, HA, LG, LG2, HB⟩ := hrel
    by_cases hlt : i < K
    · obtain ⟨D, rfl, hD, c0, c1⟩ := LG.out.c i hlt
      obtain ⟨D2, rfl, hD2, d0, d1⟩ := LG2.out.c i hlt
      have o1 := (LG.out.x i hlt).2; have o2 := (LG2.out.x i hlt).2
      have SX := Lib.hid (fun W h1 h2 => Same_yes (X i) (X2 i) W h1 h2 (o1.S.trans o2.S.symm) (o1.n.trans o2.n.symm) (fun j _ => by rw [o1.f, o2.f]) (Nat.le_trans (LG.out.sd hlt) (by decide)))
      have hki : (i : Int) < (K : Int) := by omega
      have k0 : (0 : Int) ≤ (i : Int) := by omega
      have wk : IntKind.i64.wrap ((i : Int) + 1) = (i : Int) + 1 := IntWalk.i64_in _ (by have := K5.out; omega)
      have HLT := Lib.hid hlt
      clear hi hlt o1 o2
      go_wp2_with (fail)
      refine wp_region_still_tail 8 (by kernel_rfl) (by kernel_rfl) ?_; simp only [List.take_succ_cons, List.take_zero, List.drop_succ_cons, List.drop_zero]; change wpStill _ _ (World.drew _) (fun a1 => wpList _ _ _ _ a1 (World.drew _)) _ _; repeat still_step
      refine wpStill_nil ?_
      have hBd : Below wr.heap.size wr wr.drew := (Below.refl _ _).drew
      go_wp2_with (fail)
      go_at_call 17
      refine (SX.out _ ((LG.out.x i HLT.out).1.later hBd) ((LG2.out.x i HLT.out).1.later hBd)).mono ?_
      rintro e y1 ⟨rfl, hb⟩
      have hb2 := Below.go hBd hb
      have HA_ := Lib.hid (HA.out.later hb2); have LG_ := Lib.hid (LG.out.later hb2); have LG2_ := Lib.hid (LG2.out.later hb2); have HB_ := Lib.hid (Below.go HB.out hb2)
      clear hb hb2 hBd HA LG LG2 HB c0 c1 d0 d1 hD hD2 SX
      go_wp2_with (fail)
      go_roundw
      case rel => (first | exact ⟨i + 1, HLT.out, by go_num, HA_, LG_, LG2_, HB_⟩ | ((repeat apply Exists.intro); exact ⟨⟨i + 1, HLT.out, by go_num, HA_, LG_, LG2_, HB_⟩, rfl⟩))
      case measure => (have := HLT.out; simp [intOf]; omega)
    · obtain rfl : i = K := by omega
      clear hlt hi LG LG2
      have A0 := HA.out.at 0 _ rfl; have A1 := HA.out.at 1 _ rfl; have Al := HA.out.lt
      by_cases hz : z = 0
      · subst hz
        obtain ⟨s, e1, e2, e3⟩ := (tchk_good EZ.out).cnt
        have AT := Lib.hid (fun W h => At_yes Y s x y W h EZ.out e1 (by omega) (by omega) e3)
        have TX := Lib.hid (fun W h => Texel_any Y.S Y.q Y.n Y.c s x y Y.f e1 (by omega) (by omega) e3 W h)
        generalize txl Y.f s (mdN x s) (mdN y s) 0 = t0 at *
        generalize txl Y.f s (mdN x s) (mdN y s) 1 = t1 at *
        generalize txl Y.f s (mdN x s) (mdN y s) 2 = t2 at *
        have es := eq3B_self t0 t1 t2
        clear e1 e2 e3
        go_wp2_with (fail)
        go_at_call 22
        refine (AT.out _ (HY.out.later HB.out)).mono ?_
        rintro e y1 ⟨rfl, hb⟩
        have HA_ := Lib.hid (HA.out.later hb); have HB_ := Lib.hid (Below.go HB.out hb)
        clear hb A0 A1 Al HA HB AT
        go_upto_region 17 with fail
        obtain ⟨y2, hW⟩ : ∃ y2, y2 = (y1.alloc (.cells #[.int .i64 t0, .int .i64 t1, .int .i64 t2] 50)) := ⟨_, rfl⟩
        have hb2 : Below y1.heap.size y1 y2 := hW ▸ (Below.al (Below.refl _ _))
        have HC : Hid (Own y1.heap.size [.int .i64 t0, .int .i64 t1, .int .i64 t2] y2) := Lib.hid (hW ▸ (Own.newAt (by simp)))
        rw [← hW]
        clear hW
        obtain ⟨C, eC⟩ : ∃ X, X = y1.heap.size := ⟨_, rfl⟩
        rw [← eC] at HC ⊢
        have Cw : y1.heap.size ≤ C := by omega
        clear eC
        have HA2 := Lib.hid (HA_.out.later hb2); have HB2 := Lib.hid (Below.go HB_.out hb2)
        clear hb2 HA_ HB_ Cw
        have hBd : Below y2.heap.size y2 y2.drew := (Below.refl _ _).drew
        have SH : Hid (∀ w', Below y2.heap.size y2 w' → w'.cell? ⟨A, 0, none⟩ = some (.int .i64 Y.S) ∧ w'.cell? ⟨A, 1, none⟩ = some (.slice Y.q Y.n Y.c) ∧ w'.cell? ⟨C, 0, none⟩ = some (.int .i64 t0) ∧ w'.cell? ⟨C, 1, none⟩ = some (.int .i64 t1) ∧ w'.cell? ⟨C, 2, none⟩ = some (.int .i64 t2)) := Lib.hid fun w' hb => ⟨(HA2.out.later hb).at 0 _ rfl, (HA2.out.later hb).at 1 _ rfl, (HC.out.later hb).at 0 _ rfl, (HC.out.later hb).at 1 _ rfl, (HC.out.later hb).at 2 _ rfl⟩
        go_region_held3 (fun w' => w'.cell? ⟨A, 0, none⟩ = some (.int .i64 Y.S) ∧ w'.cell? ⟨A, 1, none⟩ = some (.slice Y.q Y.n Y.c) ∧ w'.cell? ⟨C, 0, none⟩ = some (.int .i64 t0) ∧ w'.cell? ⟨C, 1, none⟩ = some (.int .i64 t1) ∧ w'.cell? ⟨C, 2, none⟩ = some (.int .i64 t2)) (first | exact SH.out _ (by assumption) | exact SH.out _ (Below.al (by assumption))) (first | (go_at_call 23; (with_reducible refine (TX.out _ (HY.out.t.later (Below.go HB2.out hBd))).mono ?_); rintro e y3 ⟨rfl, h1⟩; have by3 : Below y2.heap.size y2 y3 := Below.go hBd h1; clear h1) | (go_at_call 14; (with_reducible refine (works_any _).mono ?_); rintro e y4 ⟨rfl, h1⟩; have by4 : Below y2.heap.size y2 y4 := Below.go by3 h1; clear h1))
        clear hBd SH by3
        go_wp2_with (fail)
        go_ret
        exact ⟨rfl, Below.go HB2.out by4⟩
      · have hd : (z != 0) = true := by simpa using hz
        have AT := Lib.hid (fun W h => At_no Y x y W h (by rw [EZ.out]; exact hz))
        rw [EZ.out] at AT
        clear hz
        have es := eq3B_self 0 0 0
        go_wp2_with (fail)
        go_at_call 22
        refine (AT.out _ (HY.out.later HB.out)).mono ?_
        rintro e y1 ⟨rfl, hb⟩
        have HB_ := Lib.hid (Below.go HB.out hb)
        clear hb A0 A1 Al HA HB AT
        go_wp2_with (go_at_call 14; refine (works_any _).mono ?_; rintro e y2 ⟨rfl, hb⟩; have HB2 := Lib.hid (Below.go (Below.al HB_.out) hb); clear hb)
        go_ret
        exact ⟨rfl, HB2.out⟩
end Go.Proofs.Ytbhdlpndmbhaiaa
