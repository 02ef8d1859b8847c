/- mesh: Box. -/
import Derived.Test.YtnopcgkhoennfaaSM
import Derived.Lib.Hide
import Derived.LoopN
import Derived.LoopTactic
import Derived.Deep.Onto
import Derived.Deep.RegionHeld3
import Derived.Deep.QuietTactic
import Derived.BigQuiet
import Derived.StillTailTactics
namespace Go.Proofs.Ytnopcgkhoennfaa
set_option linter.unusedVariables false
set_option maxRecDepth 2000
set_option linter.unusedSimpArgs false
open Go.RowKit
attribute [local go_sem] setCell_self
attribute [local go_sem ↓] ix3_0 ix3_1 ix3_2
/-- the j-th corner's coordinate of an axis -/
def crn (V R : Nat → Int) (j a : Nat) : Int := V ((R j).toNat * 3 + a)
/-- l is the least, h the greatest of the first c of n corners' coordinates of an axis, as far as they go -/
structure BoxB (V R : Nat → Int) (n c a : Nat) (l h : Int) : Prop where
  all : ∀ j, j < c → l ≤ crn V R j a ∧ crn V R j a ≤ h
  lo : ∃ j, j < n ∧ l = crn V R j a
  hi : ∃ j, j < n ∧ h = crn V R j a
theorem BoxB.start {V R : Nat → Int} {n a : Nat} (h : 0 < n) : BoxB V R n 0 a (crn V R 0 a) (crn V R 0 a) := ⟨fun j hj => absurd hj (Nat.not_lt_zero j), ⟨0, h, rfl⟩, ⟨0, h, rfl⟩⟩
theorem BoxB.step {V R : Nat → Int} {n c a : Nat} {l h x : Int} (b : BoxB V R n c a l h) (hc : c < n) (hx : x = crn V R c a) : BoxB V R n (c + 1) a (min l x) (max h x) where
  all j hj := by
    by_cases e : j = c
    · subst e hx; omega
    · have := b.all j (by omega); omega
  lo := by
    rcases Int.le_total l x with h | h
    · rw [Int.min_eq_left h]; exact b.lo
    · rw [Int.min_eq_right h]; exact ⟨c, hc, hx⟩
  hi := by
    rcases Int.le_total h x with k | k
    · rw [Int.max_eq_right k]; exact ⟨c, hc, hx⟩
    · rw [Int.max_eq_left k]; exact b.hi
/-- of all three axes -/
def Box3 (V R : Nat → Int) (n c : Nat) (l0 l1 l2 h0 h1 h2 : Int) : Prop := BoxB V R n c 0 l0 h0 ∧ BoxB V R n c 1 l1 h1 ∧ BoxB V R n c 2 l2 h2
theorem Box3.step {V R : Nat → Int} {n c : Nat} {l0 l1 l2 h0 h1 h2 x y z : Int} (b : Box3 V R n c l0 l1 l2 h0 h1 h2) (hc : c < n) (hx : x = crn V R c 0) (hy : y = crn V R c 1) (hz : z = crn V R c 2) : Box3 V R n (c + 1) (min l0 x) (min l1 y) (min l2 z) (max h0 x) (max h1 y) (max h2 z) := ⟨b.1.step hc hx, b.2.1.step hc hy, b.2.2.step hc hz⟩
set_option maxHeartbeats 8000000 in
theorem Box_no (M : Msh) (z : Int) (w : World) (hM : MeshAt M w) (hz : chkM M = z) (h0 : z ≠ 0) : Calls Try.prog 19 #[(.agg #[.slice M.qv M.nv M.cv, .slice M.qu M.nu M.cu, .slice M.qt M.nt M.ct])] w fun e w' => e = .returned (.tuple #[(.agg #[.int .i64 0, .int .i64 0, .int .i64 0]), (.agg #[.int .i64 0, .int .i64 0, .int .i64 0]), .int .i64 z]) ∧ Below w.heap.size w w' := by
  have HM := Lib.hid hM
  have CK := Lib.hid (Check_any M)
  have HZ := Lib.hid hz
  have hd : (z != 0) = true := by simpa using h0
  clear hM hz h0
  go_enter Try.func19, Try.ntmps19
  go_upto_region 1 with fail
  obtain ⟨W0, hW⟩ : ∃ W0, W0 = (((w.alloc (.cells #[.slice M.qv M.nv M.cv, .slice M.qu M.nu M.cu, .slice M.qt M.nt M.ct] 26)).alloc (.cells #[.int .i64 0, .int .i64 0, .int .i64 0] 46)).alloc (.cells #[.int .i64 0, .int .i64 0, .int .i64 0] 46)) := ⟨_, rfl⟩
  have hB0 : Below w.heap.size w W0 := hW ▸ (Below.al (Below.al (Below.al (Below.refl _ _))))
  have HA : Hid (Own w.heap.size [.slice M.qv M.nv M.cv, .slice M.qu M.nu M.cu, .slice M.qt M.nt M.ct] W0) := Lib.hid (hW ▸ (Own.newAt (by simp)).alloc.alloc)
  have HP : Hid (Own (w.heap.size + 1) [.int .i64 0, .int .i64 0, .int .i64 0] W0) := Lib.hid (hW ▸ (Own.newAt (by simp)).alloc)
  have HX : Hid (Own ((w.heap.size + 1) + 1) [.int .i64 0, .int .i64 0, .int .i64 0] W0) := Lib.hid (hW ▸ (Own.newAt (by simp)))
  rw [← hW]
  clear hW
  obtain ⟨X, eX⟩ : ∃ X, X = ((w.heap.size + 1) + 1) := ⟨_, rfl⟩
  rw [← eX] at HX ⊢
  have Xw : w.heap.size ≤ X := by omega
  obtain ⟨P, eP⟩ : ∃ X, X = (w.heap.size + 1) := ⟨_, rfl⟩
  rw [← eP] at HP ⊢
  have Pw : w.heap.size ≤ P := by omega
  obtain ⟨A, eA⟩ : ∃ X, X = w.heap.size := ⟨_, rfl⟩
  rw [← eA] at HA ⊢
  have Aw : w.heap.size ≤ A := by omega
  have nAP : A ≠ P := by omega
  have nPA : P ≠ A := by omega
  have nAX : A ≠ X := by omega
  have nXA : X ≠ A := by omega
  have nPX : P ≠ X := by omega
  have nXP : X ≠ P := by omega
  clear eA eP eX
  have HM0 := Lib.hid (HM.out.later hB0)
  have oA := HA.out
  have A0 := oA.at 0 _ rfl
  have A1 := oA.at 1 _ rfl
  have A2 := oA.at 2 _ rfl
  have Al := oA.lt
  clear oA
  go_wp2_with (fail)
  go_at_call 11
  refine (CK.out _ HM0.out).mono ?_
  rintro e w1 ⟨rfl, hb⟩
  have HA1 := Lib.hid (HA.out.later hb); have HP1 := Lib.hid (HP.out.later hb); have HX1 := Lib.hid (HX.out.later hb); have HB1 := Lib.hid (Below.go hB0 hb)
  clear hb hB0 HM0 HA HP HX A0 A1 A2 Al
  rw [HZ.out]
  go_upto_region 3 with fail
  have oP := HP1.out
  have P0 := oP.at 0 _ rfl
  have Pf0 := oP.ok 0 (by simp)
  have P1 := oP.at 1 _ rfl
  have Pf1 := oP.ok 1 (by simp)
  have P2 := oP.at 2 _ rfl
  have Pf2 := oP.ok 2 (by simp)
  have Pl := oP.lt
  clear oP
  have oX := HX1.out
  have X0 := oX.at 0 _ rfl
  have Xf0 := oX.ok 0 (by simp)
  have X1 := oX.at 1 _ rfl
  have Xf1 := oX.ok 1 (by simp)
  have X2 := oX.at 2 _ rfl
  have Xf2 := oX.ok 2 (by simp)
  have Xl := oX.lt
  clear oX
  go_region_held3 (fun w' => w' = w1.drew) (first | rfl | assumption) (fail)
  clear P0 Pf0 P1 Pf1 P2 Pf2 Pl X0 Xf0 X1 Xf1 X2 Xf2 Xl
  have HP2 := Lib.hid (HP1.out.drew); have HX2 := Lib.hid (HX1.out.drew); have HB2 := Lib.hid (HB1.out.drew)
  generalize w1.drew = w2 at *
  go_wp2_with (fail)
  have hL1 := run_loadVar_mid (P := Try.prog) _ P 0 46 [.int .i64 0, .int .i64 0, .int .i64 0] _ HP2.out.cell Try.underlying46 rfl (by kernel_rfl)
  have hL2 := run_loadVar_mid (P := Try.prog) _ X 0 46 [.int .i64 0, .int .i64 0, .int .i64 0] _ HX2.out.cell Try.underlying46 rfl (by kernel_rfl)
  exact bodyPost_ret (v := .tuple #[.agg ([.int .i64 0, .int .i64 0, .int .i64 0] : List Value).toArray, .agg ([.int .i64 0, .int .i64 0, .int .i64 0] : List Value).toArray, .int .i64 z]) (res_three Try.results19 rfl hL1 rfl hL2 rfl) rfl ⟨rfl, HB2.out⟩
set_option maxHeartbeats 16000000 in
theorem Box_yes (M : Msh) (w : World) (hM : MeshAt M w) (hz : chkM M = 0) : Calls Try.prog 19 #[(.agg #[.slice M.qv M.nv M.cv, .slice M.qu M.nu M.cu, .slice M.qt M.nt M.ct])] w fun e w' => (∃ l0 l1 l2 h0 h1 h2, e = .returned (.tuple #[(.agg #[.int .i64 l0, .int .i64 l1, .int .i64 l2]), (.agg #[.int .i64 h0, .int .i64 h1, .int .i64 h2]), .int .i64 0]) ∧ Box3 M.V M.R (M.nt * 3) (M.nt * 3) l0 l1 l2 h0 h1 h2) ∧ Below w.heap.size w w' := by
  have HZ := Lib.hid hz
  have HM := Lib.hid hM
  have CK := Lib.hid (Check_any M)
  have GD := Lib.hid (chk_good (show chkF M.nv M.nu M.nt M.V M.U M.R = 0 from hz))
  obtain ⟨qv, nv, cv, V, qu, nu, cu, U, qt, nt, ct, R⟩ := M
  dsimp only at *
  have nn := GD.out.hn
  have nt1 := GD.out.ht
  obtain ⟨D3, o3, eqt, hD3, -⟩ := hM.t.at3 (i := 0) (show 0 < nt by omega)
  obtain ⟨DV, oV, eqv, hDV, -⟩ := hM.v.at3 (i := 0) (show 0 < nv by omega)
  dsimp only at *
  subst eqv eqt
  have HV := Lib.hid (fun (W : World) (hW : Below w.heap.size w W) (j : Nat) (hj : j < nv) => show Has DV (oV + j * 3) [.int .i64 (V (j * 3)), .int .i64 (V (j * 3 + 1)), .int .i64 (V (j * 3 + 2))] W by
    obtain ⟨D, o, eq, hD, c0, c1, c2⟩ := hM.v.at3 hj
    cases eq
    exact Has.later ⟨hD, fun j v hj => by
      match j, hj with
      | 0, hj => cases hj; exact c0
      | 1, hj => cases hj; exact c1
      | 2, hj => cases hj; exact c2⟩ hW)
  have HT := Lib.hid (fun (W : World) (hW : Below w.heap.size w W) (k : Nat) (hk : k < nt) => show Has D3 (o3 + k * 3) [.int .i64 (((R (k * 3)).toNat : Nat) : Int), .int .i64 (((R (k * 3 + 1)).toNat : Nat) : Int), .int .i64 (((R (k * 3 + 2)).toNat : Nat) : Int)] W by
    obtain ⟨D, o, eq, hD, c0, c1, c2⟩ := hM.t.at3 hk
    cases eq
    have g0 := GD.out.t (k * 3) (by omega); have g1 := GD.out.t (k * 3 + 1) (by omega); have g2 := GD.out.t (k * 3 + 2) (by omega)
    exact Has.later ⟨hD, fun j v hj => by
      match j, hj with
      | 0, hj => cases hj; rw [show (((R (k * 3)).toNat : Nat) : Int) = R (k * 3) by omega]; exact c0
      | 1, hj => cases hj; rw [show (((R (k * 3 + 1)).toNat : Nat) : Int) = R (k * 3 + 1) by omega]; exact c1
      | 2, hj => cases hj; rw [show (((R (k * 3 + 2)).toNat : Nat) : Int) = R (k * 3 + 2) by omega]; exact c2⟩ hW)
  have GT := Lib.hid (fun j (hj : j < nt * 3) => show (R j).toNat < nv by have := GD.out.t j hj; omega)
  have N1 := Lib.hid nt1
  obtain ⟨j0, e0⟩ : ∃ j, (R 0).toNat = j := ⟨_, rfl⟩
  have J0 := Lib.hid e0
  have JL := Lib.hid (show j0 < nv by rw [← e0]; exact GT.out 0 (by omega))
  have B0 : Hid (Box3 V R (nt * 3) 0 (V (j0 * 3)) (V (j0 * 3 + 1)) (V (j0 * 3 + 2)) (V (j0 * 3)) (V (j0 * 3 + 1)) (V (j0 * 3 + 2))) := Lib.hid (by
    rw [← e0]
    exact ⟨BoxB.start (by omega), BoxB.start (by omega), BoxB.start (by omega)⟩)
  clear hM hz e0 GD nn nt1 hD3 hDV
  go_enter Try.func19, Try.ntmps19
  go_upto_region 1 with fail
  obtain ⟨W0, hW⟩ : ∃ W0, W0 = (((w.alloc (.cells #[.slice (some ⟨DV, oV, none⟩) nv cv, .slice qu nu cu, .slice (some ⟨D3, o3, none⟩) nt ct] 26)).alloc (.cells #[.int .i64 0, .int .i64 0, .int .i64 0] 46)).alloc (.cells #[.int .i64 0, .int .i64 0, .int .i64 0] 46)) := ⟨_, rfl⟩
  have hB0 : Below w.heap.size w W0 := hW ▸ (Below.al (Below.al (Below.al (Below.refl _ _))))
  have HA : Hid (Own w.heap.size [.slice (some ⟨DV, oV, none⟩) nv cv, .slice qu nu cu, .slice (some ⟨D3, o3, none⟩) nt ct] W0) := Lib.hid (hW ▸ (Own.newAt (by simp)).alloc.alloc)
  have HP : Hid (Own (w.heap.size + 1) [.int .i64 0, .int .i64 0, .int .i64 0] W0) := Lib.hid (hW ▸ (Own.newAt (by simp)).alloc)
  have HX : Hid (Own ((w.heap.size + 1) + 1) [.int .i64 0, .int .i64 0, .int .i64 0] W0) := Lib.hid (hW ▸ (Own.newAt (by simp)))
  rw [← hW]
  clear hW
  obtain ⟨X, eX⟩ : ∃ X, X = ((w.heap.size + 1) + 1) := ⟨_, rfl⟩
  rw [← eX] at HX ⊢
  have Xw : w.heap.size ≤ X := by omega
  obtain ⟨P, eP⟩ : ∃ X, X = (w.heap.size + 1) := ⟨_, rfl⟩
  rw [← eP] at HP ⊢
  have Pw : w.heap.size ≤ P := by omega
  obtain ⟨A, eA⟩ : ∃ X, X = w.heap.size := ⟨_, rfl⟩
  rw [← eA] at HA ⊢
  have Aw : w.heap.size ≤ A := by omega
  have nAP : A ≠ P := by omega
  have nPA : P ≠ A := by omega
  have nAX : A ≠ X := by omega
  have nXA : X ≠ A := by omega
  have nPX : P ≠ X := by omega
  have nXP : X ≠ P := by omega
  clear eA eP eX
  have HM0 := Lib.hid (HM.out.later hB0)
  have oA := HA.out
  have A0 := oA.at 0 _ rfl
  have A1 := oA.at 1 _ rfl
  have A2 := oA.at 2 _ rfl
  have Al := oA.lt
  clear oA
  go_wp2_with (fail)
  go_at_call 11
  refine (CK.out _ HM0.out).mono ?_
  rintro e w1 ⟨rfl, hb⟩
  have HA1 := Lib.hid (HA.out.later hb); have HP1 := Lib.hid (HP.out.later hb); have HX1 := Lib.hid (HX.out.later hb); have HB1 := Lib.hid (Below.go hB0 hb)
  clear hb hB0 HM0 HA HP HX A0 A1 A2 Al
  rw [HZ.out]
  clear CK HZ
  have t0 : w1.cell? ⟨D3, o3, none⟩ = some (.int .i64 (j0 : Int)) := by
    have := (HT.out w1 HB1.out 0 (by have := N1.out; omega)).at 0 _ rfl
    rw [Nat.zero_mul, J0.out] at this
    exact this
  have Tl := (HT.out w1 HB1.out 0 (by have := N1.out; omega)).lt
  have V3 := HV.out w1 HB1.out j0 JL.out
  have v0 : w1.cell? ⟨DV, oV + j0 * 3, none⟩ = some (.int .i64 (V (j0 * 3))) := V3.at 0 _ rfl
  have v1 := V3.at 1 _ rfl; have v2 := V3.at 2 _ rfl
  have Vl := V3.lt
  have p0 : (0 : Int) ≤ (j0 : Int) := by omega
  have q0 : (j0 : Int) < (nv : Int) := by have := JL.out; omega
  have n0 : (0 : Int) < (nt : Int) := by have := N1.out; omega
  have n1 : 0 < nt := by have := N1.out; omega
  clear V3
  have oA := HA1.out
  have A0 := oA.at 0 _ rfl
  have A2 := oA.at 2 _ rfl
  have Al := oA.lt
  clear oA
  go_upto_region 4 with fail
  refine wp_region_still_tail 9 (by kernel_rfl) (by kernel_rfl) ?_; simp only [List.take_succ_cons, List.take_zero, List.drop_succ_cons, List.drop_zero]; change wpStill _ _ (World.drew _) (fun a1 => wpList _ _ _ _ a1 (World.drew _)) _ _; repeat still_step
  refine wpStill_nil ?_
  clear A0 A2 Al t0 Tl v0 v1 v2 Vl p0 q0 n0 n1
  have HPd := Lib.hid HP1.out.drew; have HXd := Lib.hid HX1.out.drew; have HAd := Lib.hid HA1.out.drew; have HBd := Lib.hid HB1.out.drew
  clear HP1 HX1 HA1 HB1
  generalize w1.drew = w2 at *
  obtain ⟨x0, E0⟩ : ∃ x, x = V (j0 * 3) := ⟨_, rfl⟩
  obtain ⟨x1, E1⟩ : ∃ x, x = V (j0 * 3 + 1) := ⟨_, rfl⟩
  obtain ⟨x2, E2⟩ : ∃ x, x = V (j0 * 3 + 2) := ⟨_, rfl⟩
  rw [← E0, ← E1, ← E2] at B0 ⊢
  clear E0 E1 E2
  refine wpList_store_mid rfl 46 _ _ rfl P 0 ([.int .i64 x0, .int .i64 x1, .int .i64 x2]).toArray rfl rfl HPd.out.free (by kernel_rfl) (by simp [Value.oneCell']) ?_
  have HPn : Hid (Own P [.int .i64 x0, .int .i64 x1, .int .i64 x2] (w2.setCells P 0 [.int .i64 x0, .int .i64 x1, .int .i64 x2])) := Lib.hid (Own.store HPd.out rfl)
  have hbp : But P w2 (w2.setCells P 0 [.int .i64 x0, .int .i64 x1, .int .i64 x2]) := But.store
  have HXn := Lib.hid (HXd.out.but hbp nXP); have HAn := Lib.hid (HAd.out.but hbp nAP)
  have HBn : Hid (Below w.heap.size w (w2.setCells P 0 [.int .i64 x0, .int .i64 x1, .int .i64 x2])) := Lib.hid (Below.setCells HBd.out Pw _ _)
  clear HPd HXd HAd HBd hbp
  change wpList _ _ _ [] _ (w2.setCells P 0 [.int .i64 x0, .int .i64 x1, .int .i64 x2])
  generalize w2.setCells P 0 [.int .i64 x0, .int .i64 x1, .int .i64 x2] = w3 at *
  have oP := HPn.out
  have P0 := oP.at 0 _ rfl
  have P1 := oP.at 1 _ rfl
  have P2 := oP.at 2 _ rfl
  have Pl := oP.lt
  clear oP
  have oX := HXn.out
  have X0 := oX.at 0 _ rfl
  have Xf0 := oX.ok 0 (by simp)
  have X1 := oX.at 1 _ rfl
  have Xf1 := oX.ok 1 (by simp)
  have X2 := oX.at 2 _ rfl
  have Xf2 := oX.ok 2 (by simp)
  have Xl := oX.lt
  clear oX
  go_upto_region 6 with fail
  rw [show (((w3.setCell ⟨X, 0, none⟩ (.int .i64 x0)).setCell ⟨X, 1, none⟩ (.int .i64 x1)).setCell ⟨X, 2, none⟩ (.int .i64 x2)) = w3.setCells X 0 [.int .i64 x0, .int .i64 x1, .int .i64 x2] from rfl]
  have hbx : But X w3 (w3.setCells X 0 [.int .i64 x0, .int .i64 x1, .int .i64 x2]) := But.store
  have HPm := Lib.hid (HPn.out.but hbx nPX)
  have HXm : Hid (Own X [.int .i64 x0, .int .i64 x1, .int .i64 x2] (w3.setCells X 0 [.int .i64 x0, .int .i64 x1, .int .i64 x2])) := Lib.hid (Own.store HXn.out rfl)
  have HAm := Lib.hid (HAn.out.but hbx nAX)
  have HBm : Hid (Below w.heap.size w (w3.setCells X 0 [.int .i64 x0, .int .i64 x1, .int .i64 x2])) := Lib.hid (Below.setCells HBn.out Xw _ _)
  clear HPn HXn HAn HBn hbx P0 P1 P2 Pl X0 Xf0 X1 Xf1 X2 Xf2 Xl
  generalize w3.setCells X 0 [.int .i64 x0, .int .i64 x1, .int .i64 x2] = w4 at *
  have oA := HAm.out
  have A2 := oA.at 2 _ rfl
  have Al := oA.lt
  clear oA
  go_wp2_with (fail)
  clear A2 Al
  go_loopw [30] (fun iv wr => ∃ (k : Nat) (l0 l1 l2 h0 h1 h2 : Int), k ≤ nt ∧ iv = .int .i64 k ∧ Hid (Box3 V R (nt * 3) (k * 3) l0 l1 l2 h0 h1 h2) ∧ Hid (Own P [.int .i64 l0, .int .i64 l1, .int .i64 l2] wr) ∧ Hid (Own X [.int .i64 h0, .int .i64 h1, .int .i64 h2] wr) ∧ Hid (Own A [.slice (some ⟨DV, oV, none⟩) nv cv, .slice qu nu cu, .slice (some ⟨D3, o3, none⟩) nt ct] wr) ∧ Hid (Below w.heap.size w wr)) (fun iv _ => (nt - (intOf iv).toNat))
  case atStart => exact ⟨0, x0, x1, x2, x0, x1, x2, Nat.zero_le _, rfl, B0, HPm, HXm, HAm, HBm⟩
  case round =>
    clear B0 HPm HXm HAm HBm
    obtain ⟨k, l0, l1, l2, h0, h1, h2, hk, rfl, BX, HP, HX, HA, HB⟩ := hrel
    by_cases hlt : k < nt
    · have hki : (k : Int) < (nt : Int) := by omega
      have k0 : (0 : Int) ≤ (k : Int) := by omega
      have wk : IntKind.i64.wrap ((k : Int) + 1) = (k : Int) + 1 := IntWalk.i64_in _ (by have := N1.out; omega)
      have HLT := Lib.hid hlt
      have T3 := HT.out wr HB.out k hlt
      obtain ⟨j1, e1⟩ : ∃ j, (R (k * 3)).toNat = j := ⟨_, rfl⟩
      obtain ⟨j2, e2⟩ : ∃ j, (R (k * 3 + 1)).toNat = j := ⟨_, rfl⟩
      obtain ⟨j3, e3⟩ : ∃ j, (R (k * 3 + 2)).toNat = j := ⟨_, rfl⟩
      rw [e1, e2, e3] at T3
      have t0 : wr.cell? ⟨D3, o3 + k * 3, none⟩ = some (.int .i64 (j1 : Int)) := T3.at 0 _ rfl
      have t1 : wr.cell? ⟨D3, o3 + k * 3 + 1, none⟩ = some (.int .i64 (j2 : Int)) := T3.at 1 _ rfl
      have t2 : wr.cell? ⟨D3, o3 + k * 3 + 2, none⟩ = some (.int .i64 (j3 : Int)) := T3.at 2 _ rfl
      have Tl := T3.lt
      have JB1 := Lib.hid (show j1 < nv by rw [← e1]; exact GT.out _ (by omega)); have JB2 := Lib.hid (show j2 < nv by rw [← e2]; exact GT.out _ (by omega)); have JB3 := Lib.hid (show j3 < nv by rw [← e3]; exact GT.out _ (by omega))
      have JE1 := Lib.hid e1; have JE2 := Lib.hid e2; have JE3 := Lib.hid e3
      have K3 := Lib.hid (show k * 3 + 2 < nt * 3 by omega)
      clear hk hlt T3 e1 e2 e3
      go_upto_region 9 with fail
      clear t0 t1 t2 Tl
      obtain ⟨y0, hW⟩ : ∃ y0, y0 = (wr.alloc (.cells #[.int .i64 (j1 : Int), .int .i64 (j2 : Int), .int .i64 (j3 : Int)] 52)) := ⟨_, rfl⟩
      have hBx : Below wr.heap.size wr y0 := hW ▸ (Below.al (Below.refl _ _))
      have HTt : Hid (Own wr.heap.size ([.int .i64 (j1 : Int), .int .i64 (j2 : Int), .int .i64 (j3 : Int)]) y0) := Lib.hid (hW ▸ (show Own wr.heap.size ([.int .i64 (j1 : Int), .int .i64 (j2 : Int), .int .i64 (j3 : Int)]) (wr.alloc (.cells #[.int .i64 (j1 : Int), .int .i64 (j2 : Int), .int .i64 (j3 : Int)] 52)) from Own.newAt (by simp)))
      rw [← hW]
      clear hW
      obtain ⟨T, eT⟩ : ∃ X, X = wr.heap.size := ⟨_, rfl⟩
      rw [← eT] at HTt ⊢
      have Tw : wr.heap.size ≤ T := by omega
      clear eT
      have nPT : P ≠ T := by have := HP.out.lt; omega
      have nTP : T ≠ P := Ne.symm nPT
      have HP_ := Lib.hid (HP.out.later hBx)
      clear HP
      have HP := HP_
      clear HP_
      have nXT : X ≠ T := by have := HX.out.lt; omega
      have nTX : T ≠ X := Ne.symm nXT
      have HX_ := Lib.hid (HX.out.later hBx)
      clear HX
      have HX := HX_
      clear HX_
      have nAT : A ≠ T := by have := HA.out.lt; omega
      have nTA : T ≠ A := Ne.symm nAT
      have HA_ := Lib.hid (HA.out.later hBx)
      clear HA
      have HA := HA_
      clear HA_
      have HB_ := Lib.hid (Below.go HB.out hBx)
      clear HB hBx Tw
      have HB := HB_
      clear HB_
      have oT := HTt.out
      have T0 := oT.at 0 _ rfl
      have T1 := oT.at 1 _ rfl
      have T2 := oT.at 2 _ rfl
      have Tl := oT.lt
      clear oT
      go_wp2_with (fail)
      clear T0 T1 T2 Tl HTt
      refine wp_loop_rounds 4 ?_
      rw [rounds_succ]
      have V3 := HV.out y0 HB.out j1 JB1.out
      obtain ⟨q10, eq0⟩ : ∃ x, x = V (j1 * 3) := ⟨_, rfl⟩
      obtain ⟨q11, eq1⟩ : ∃ x, x = V (j1 * 3 + 1) := ⟨_, rfl⟩
      obtain ⟨q12, eq2⟩ : ∃ x, x = V (j1 * 3 + 2) := ⟨_, rfl⟩
      rw [← eq0, ← eq1, ← eq2] at V3
      have v0 : y0.cell? ⟨DV, oV + j1 * 3, none⟩ = some (.int .i64 q10) := V3.at 0 _ rfl
      have v1 : y0.cell? ⟨DV, oV + j1 * 3 + 1, none⟩ = some (.int .i64 q11) := V3.at 1 _ rfl
      have v2 : y0.cell? ⟨DV, oV + j1 * 3 + 2, none⟩ = some (.int .i64 q12) := V3.at 2 _ rfl
      have Vl := V3.lt
      have p0 : (0 : Int) ≤ (j1 : Int) := by omega
      have p1 : (j1 : Int) < (nv : Int) := by have := JB1.out; omega
      have BX2 : Hid (Box3 V R (nt * 3) (k * 3 + 1) ((min l0 q10)) ((min l1 q11)) ((min l2 q12)) ((max h0 q10)) ((max h1 q11)) ((max h2 q12))) := Lib.hid (BX.out.step (by have := K3.out; omega) (by unfold crn; rw [JE1.out]; exact eq0) (by unfold crn; rw [JE1.out]; exact eq1) (by unfold crn; rw [JE1.out]; exact eq2))
      clear V3 eq0 eq1 eq2 BX
      have oA := HA.out
      have A0 := oA.at 0 _ rfl
      have Al := oA.lt
      clear oA
      go_upto_region 13 with fail
      clear A0 Al v0 v1 v2 Vl p0 p1
      obtain ⟨y1, hW⟩ : ∃ y1, y1 = (y0.alloc (.cells #[.int .i64 q10, .int .i64 q11, .int .i64 q12] 46)) := ⟨_, rfl⟩
      have hBx : Below y0.heap.size y0 y1 := hW ▸ (Below.al (Below.refl _ _))
      have HQ : Hid (Own y0.heap.size ([.int .i64 q10, .int .i64 q11, .int .i64 q12]) y1) := Lib.hid (hW ▸ (show Own y0.heap.size ([.int .i64 q10, .int .i64 q11, .int .i64 q12]) (y0.alloc (.cells #[.int .i64 q10, .int .i64 q11, .int .i64 q12] 46)) from Own.newAt (by simp)))
      rw [← hW]
      clear hW
      obtain ⟨Q, eQ⟩ : ∃ X, X = y0.heap.size := ⟨_, rfl⟩
      rw [← eQ] at HQ ⊢
      have Qw : y0.heap.size ≤ Q := by omega
      clear eQ
      have nPQ : P ≠ Q := by have := HP.out.lt; omega
      have nQP : Q ≠ P := Ne.symm nPQ
      have HP_ := Lib.hid (HP.out.later hBx)
      clear HP
      have HP := HP_
      clear HP_
      have nXQ : X ≠ Q := by have := HX.out.lt; omega
      have nQX : Q ≠ X := Ne.symm nXQ
      have HX_ := Lib.hid (HX.out.later hBx)
      clear HX
      have HX := HX_
      clear HX_
      have nAQ : A ≠ Q := by have := HA.out.lt; omega
      have nQA : Q ≠ A := Ne.symm nAQ
      have HA_ := Lib.hid (HA.out.later hBx)
      clear HA
      have HA := HA_
      clear HA_
      have HB_ := Lib.hid (Below.go HB.out hBx)
      clear HB hBx Qw
      have HB := HB_
      clear HB_
      have oP := HP.out
      have P0 := oP.at 0 _ rfl
      have Pf0 := oP.ok 0 (by simp)
      have P1 := oP.at 1 _ rfl
      have Pf1 := oP.ok 1 (by simp)
      have P2 := oP.at 2 _ rfl
      have Pf2 := oP.ok 2 (by simp)
      have Pl := oP.lt
      clear oP
      have oQ := HQ.out
      have Q0 := oQ.at 0 _ rfl
      have Q1 := oQ.at 1 _ rfl
      have Q2 := oQ.at 2 _ rfl
      have Ql := oQ.lt
      clear oQ
      go_upto_region 14 with fail
      rw [show (((y1.setCell ⟨P, 0, none⟩ (.int .i64 (min l0 q10))).setCell ⟨P, 1, none⟩ (.int .i64 (min l1 q11))).setCell ⟨P, 2, none⟩ (.int .i64 (min l2 q12))) = y1.setCells P 0 [.int .i64 (min l0 q10), .int .i64 (min l1 q11), .int .i64 (min l2 q12)] from rfl]
      have hbp : But P y1 (y1.setCells P 0 [.int .i64 (min l0 q10), .int .i64 (min l1 q11), .int .i64 (min l2 q12)]) := But.store
      have HPn : Hid (Own P [.int .i64 (min l0 q10), .int .i64 (min l1 q11), .int .i64 (min l2 q12)] (y1.setCells P 0 [.int .i64 (min l0 q10), .int .i64 (min l1 q11), .int .i64 (min l2 q12)])) := Lib.hid (Own.store HP.out rfl)
      have HXn := Lib.hid (HX.out.but hbp nXP); have HAn := Lib.hid (HA.out.but hbp nAP); have HQn := Lib.hid (HQ.out.but hbp nQP)
      have HBn : Hid (Below w.heap.size w (y1.setCells P 0 [.int .i64 (min l0 q10), .int .i64 (min l1 q11), .int .i64 (min l2 q12)])) := Lib.hid (Below.setCells HB.out Pw _ _)
      clear P0 P1 P2 Pf0 Pf1 Pf2 Pl Q0 Q1 Q2 Ql HP HX HA HQ HB hbp
      generalize y1.setCells P 0 [.int .i64 (min l0 q10), .int .i64 (min l1 q11), .int .i64 (min l2 q12)] = y2 at *
      have oX := HXn.out
      have X0 := oX.at 0 _ rfl
      have Xf0 := oX.ok 0 (by simp)
      have X1 := oX.at 1 _ rfl
      have Xf1 := oX.ok 1 (by simp)
      have X2 := oX.at 2 _ rfl
      have Xf2 := oX.ok 2 (by simp)
      have Xl := oX.lt
      clear oX
      have oQ := HQn.out
      have Q0 := oQ.at 0 _ rfl
      have Q1 := oQ.at 1 _ rfl
      have Q2 := oQ.at 2 _ rfl
      have Ql := oQ.lt
      clear oQ
      go_upto_region 15 with fail
      rw [show (((y2.setCell ⟨X, 0, none⟩ (.int .i64 (max h0 q10))).setCell ⟨X, 1, none⟩ (.int .i64 (max h1 q11))).setCell ⟨X, 2, none⟩ (.int .i64 (max h2 q12))) = y2.setCells X 0 [.int .i64 (max h0 q10), .int .i64 (max h1 q11), .int .i64 (max h2 q12)] from rfl]
      have hbx : But X y2 (y2.setCells X 0 [.int .i64 (max h0 q10), .int .i64 (max h1 q11), .int .i64 (max h2 q12)]) := But.store
      have HX : Hid (Own X [.int .i64 (max h0 q10), .int .i64 (max h1 q11), .int .i64 (max h2 q12)] (y2.setCells X 0 [.int .i64 (max h0 q10), .int .i64 (max h1 q11), .int .i64 (max h2 q12)])) := Lib.hid (Own.store HXn.out rfl)
      have HP := Lib.hid (HPn.out.but hbx nPX); have HA := Lib.hid (HAn.out.but hbx nAX)
      have HB : Hid (Below w.heap.size w (y2.setCells X 0 [.int .i64 (max h0 q10), .int .i64 (max h1 q11), .int .i64 (max h2 q12)])) := Lib.hid (Below.setCells HBn.out Xw _ _)
      clear X0 X1 X2 Xf0 Xf1 Xf2 Xl Q0 Q1 Q2 Ql HPn HXn HAn HQn HBn hbx nPQ nQP nXQ nQX nAQ nQA
      generalize y2.setCells X 0 [.int .i64 (max h0 q10), .int .i64 (max h1 q11), .int .i64 (max h2 q12)] = y3 at *
      generalize min l0 q10 = l10 at *
      generalize min l1 q11 = l11 at *
      generalize min l2 q12 = l12 at *
      generalize max h0 q10 = h10 at *
      generalize max h1 q11 = h11 at *
      generalize max h2 q12 = h12 at *
      have BX := BX2
      clear BX2
      go_wp2_with (fail)
      rw [rounds_succ]
      have V3 := HV.out y3 HB.out j2 JB2.out
      obtain ⟨q20, eq0⟩ : ∃ x, x = V (j2 * 3) := ⟨_, rfl⟩
      obtain ⟨q21, eq1⟩ : ∃ x, x = V (j2 * 3 + 1) := ⟨_, rfl⟩
      obtain ⟨q22, eq2⟩ : ∃ x, x = V (j2 * 3 + 2) := ⟨_, rfl⟩
      rw [← eq0, ← eq1, ← eq2] at V3
      have v0 : y3.cell? ⟨DV, oV + j2 * 3, none⟩ = some (.int .i64 q20) := V3.at 0 _ rfl
      have v1 : y3.cell? ⟨DV, oV + j2 * 3 + 1, none⟩ = some (.int .i64 q21) := V3.at 1 _ rfl
      have v2 : y3.cell? ⟨DV, oV + j2 * 3 + 2, none⟩ = some (.int .i64 q22) := V3.at 2 _ rfl
      have Vl := V3.lt
      have p0 : (0 : Int) ≤ (j2 : Int) := by omega
      have p1 : (j2 : Int) < (nv : Int) := by have := JB2.out; omega
      have BX2 : Hid (Box3 V R (nt * 3) (k * 3 + 1 + 1) ((min l10 q20)) ((min l11 q21)) ((min l12 q22)) ((max h10 q20)) ((max h11 q21)) ((max h12 q22))) := Lib.hid (BX.out.step (by have := K3.out; omega) (by unfold crn; rw [JE2.out]; exact eq0) (by unfold crn; rw [JE2.out]; exact eq1) (by unfold crn; rw [JE2.out]; exact eq2))
      clear V3 eq0 eq1 eq2 BX
      have oA := HA.out
      have A0 := oA.at 0 _ rfl
      have Al := oA.lt
      clear oA
      go_upto_region 13 with fail
      clear A0 Al v0 v1 v2 Vl p0 p1
      obtain ⟨y5, hW⟩ : ∃ y5, y5 = (y3.alloc (.cells #[.int .i64 q20, .int .i64 q21, .int .i64 q22] 46)) := ⟨_, rfl⟩
      have hBx : Below y3.heap.size y3 y5 := hW ▸ (Below.al (Below.refl _ _))
      have HQ : Hid (Own y3.heap.size ([.int .i64 q20, .int .i64 q21, .int .i64 q22]) y5) := Lib.hid (hW ▸ (show Own y3.heap.size ([.int .i64 q20, .int .i64 q21, .int .i64 q22]) (y3.alloc (.cells #[.int .i64 q20, .int .i64 q21, .int .i64 q22] 46)) from Own.newAt (by simp)))
      rw [← hW]
      clear hW
      obtain ⟨Q, eQ⟩ : ∃ X, X = y3.heap.size := ⟨_, rfl⟩
      rw [← eQ] at HQ ⊢
      have Qw : y3.heap.size ≤ Q := by omega
      clear eQ
      have nPQ : P ≠ Q := by have := HP.out.lt; omega
      have nQP : Q ≠ P := Ne.symm nPQ
      have HP_ := Lib.hid (HP.out.later hBx)
      clear HP
      have HP := HP_
      clear HP_
      have nXQ : X ≠ Q := by have := HX.out.lt; omega
      have nQX : Q ≠ X := Ne.symm nXQ
      have HX_ := Lib.hid (HX.out.later hBx)
      clear HX
      have HX := HX_
      clear HX_
      have nAQ : A ≠ Q := by have := HA.out.lt; omega
      have nQA : Q ≠ A := Ne.symm nAQ
      have HA_ := Lib.hid (HA.out.later hBx)
      clear HA
      have HA := HA_
      clear HA_
      have HB_ := Lib.hid (Below.go HB.out hBx)
      clear HB hBx Qw
      have HB := HB_
      clear HB_
      have oP := HP.out
      have P0 := oP.at 0 _ rfl
      have Pf0 := oP.ok 0 (by simp)
      have P1 := oP.at 1 _ rfl
      have Pf1 := oP.ok 1 (by simp)
      have P2 := oP.at 2 _ rfl
      have Pf2 := oP.ok 2 (by simp)
      have Pl := oP.lt
      clear oP
      have oQ := HQ.out
      have Q0 := oQ.at 0 _ rfl
      have Q1 := oQ.at 1 _ rfl
      have Q2 := oQ.at 2 _ rfl
      have Ql := oQ.lt
      clear oQ
      go_upto_region 14 with fail
      rw [show (((y5.setCell ⟨P, 0, none⟩ (.int .i64 (min l10 q20))).setCell ⟨P, 1, none⟩ (.int .i64 (min l11 q21))).setCell ⟨P, 2, none⟩ (.int .i64 (min l12 q22))) = y5.setCells P 0 [.int .i64 (min l10 q20), .int .i64 (min l11 q21), .int .i64 (min l12 q22)] from rfl]
      have hbp : But P y5 (y5.setCells P 0 [.int .i64 (min l10 q20), .int .i64 (min l11 q21), .int .i64 (min l12 q22)]) := But.store
      have HPn : Hid (Own P [.int .i64 (min l10 q20), .int .i64 (min l11 q21), .int .i64 (min l12 q22)] (y5.setCells P 0 [.int .i64 (min l10 q20), .int .i64 (min l11 q21), .int .i64 (min l12 q22)])) := Lib.hid (Own.store HP.out rfl)
      have HXn := Lib.hid (HX.out.but hbp nXP); have HAn := Lib.hid (HA.out.but hbp nAP); have HQn := Lib.hid (HQ.out.but hbp nQP)
      have HBn : Hid (Below w.heap.size w (y5.setCells P 0 [.int .i64 (min l10 q20), .int .i64 (min l11 q21), .int .i64 (min l12 q22)])) := Lib.hid (Below.setCells HB.out Pw _ _)
      clear P0 P1 P2 Pf0 Pf1 Pf2 Pl Q0 Q1 Q2 Ql HP HX HA HQ HB hbp
      generalize y5.setCells P 0 [.int .i64 (min l10 q20), .int .i64 (min l11 q21), .int .i64 (min l12 q22)] = y6 at *
      have oX := HXn.out
      have X0 := oX.at 0 _ rfl
      have Xf0 := oX.ok 0 (by simp)
      have X1 := oX.at 1 _ rfl
      have Xf1 := oX.ok 1 (by simp)
      have X2 := oX.at 2 _ rfl
      have Xf2 := oX.ok 2 (by simp)
      have Xl := oX.lt
      clear oX
      have oQ := HQn.out
      have Q0 := oQ.at 0 _ rfl
      have Q1 := oQ.at 1 _ rfl
      have Q2 := oQ.at 2 _ rfl
      have Ql := oQ.lt
      clear oQ
      go_upto_region 15 with fail
      rw [show (((y6.setCell ⟨X, 0, none⟩ (.int .i64 (max h10 q20))).setCell ⟨X, 1, none⟩ (.int .i64 (max h11 q21))).setCell ⟨X, 2, none⟩ (.int .i64 (max h12 q22))) = y6.setCells X 0 [.int .i64 (max h10 q20), .int .i64 (max h11 q21), .int .i64 (max h12 q22)] from rfl]
      have hbx : But X y6 (y6.setCells X 0 [.int .i64 (max h10 q20), .int .i64 (max h11 q21), .int .i64 (max h12 q22)]) := But.store
      have HX : Hid (Own X [.int .i64 (max h10 q20), .int .i64 (max h11 q21), .int .i64 (max h12 q22)] (y6.setCells X 0 [.int .i64 (max h10 q20), .int .i64 (max h11 q21), .int .i64 (max h12 q22)])) := Lib.hid (Own.store HXn.out rfl)
      have HP := Lib.hid (HPn.out.but hbx nPX); have HA := Lib.hid (HAn.out.but hbx nAX)
      have HB : Hid (Below w.heap.size w (y6.setCells X 0 [.int .i64 (max h10 q20), .int .i64 (max h11 q21), .int .i64 (max h12 q22)])) := Lib.hid (Below.setCells HBn.out Xw _ _)
      clear X0 X1 X2 Xf0 Xf1 Xf2 Xl Q0 Q1 Q2 Ql HPn HXn HAn HQn HBn hbx nPQ nQP nXQ nQX nAQ nQA
      generalize y6.setCells X 0 [.int .i64 (max h10 q20), .int .i64 (max h11 q21), .int .i64 (max h12 q22)] = y7 at *
      generalize min l10 q20 = l20 at *
      generalize min l11 q21 = l21 at *
      generalize min l12 q22 = l22 at *
      generalize max h10 q20 = h20 at *
      generalize max h11 q21 = h21 at *
      generalize max h12 q22 = h22 at *
      have BX := BX2
      clear BX2
      go_wp2_with (fail)
      rw [rounds_succ]
      have V3 := HV.out y7 HB.out j3 JB3.out
      obtain ⟨q30, eq0⟩ : ∃ x, x = V (j3 * 3) := ⟨_, rfl⟩
      obtain ⟨q31, eq1⟩ : ∃ x, x = V (j3 * 3 + 1) := ⟨_, rfl⟩
      obtain ⟨q32, eq2⟩ : ∃ x, x = V (j3 * 3 + 2) := ⟨_, rfl⟩
      rw [← eq0, ← eq1, ← eq2] at V3
      have v0 : y7.cell? ⟨DV, oV + j3 * 3, none⟩ = some (.int .i64 q30) := V3.at 0 _ rfl
      have v1 : y7.cell? ⟨DV, oV + j3 * 3 + 1, none⟩ = some (.int .i64 q31) := V3.at 1 _ rfl
      have v2 : y7.cell? ⟨DV, oV + j3 * 3 + 2, none⟩ = some (.int .i64 q32) := V3.at 2 _ rfl
      have Vl := V3.lt
      have p0 : (0 : Int) ≤ (j3 : Int) := by omega
      have p1 : (j3 : Int) < (nv : Int) := by have := JB3.out; omega
      have BX2 : Hid (Box3 V R (nt * 3) (k * 3 + 2 + 1) ((min l20 q30)) ((min l21 q31)) ((min l22 q32)) ((max h20 q30)) ((max h21 q31)) ((max h22 q32))) := Lib.hid (BX.out.step (by have := K3.out; omega) (by unfold crn; rw [JE3.out]; exact eq0) (by unfold crn; rw [JE3.out]; exact eq1) (by unfold crn; rw [JE3.out]; exact eq2))
      clear V3 eq0 eq1 eq2 BX
      have oA := HA.out
      have A0 := oA.at 0 _ rfl
      have Al := oA.lt
      clear oA
      go_upto_region 13 with fail
      clear A0 Al v0 v1 v2 Vl p0 p1
      obtain ⟨y9, hW⟩ : ∃ y9, y9 = (y7.alloc (.cells #[.int .i64 q30, .int .i64 q31, .int .i64 q32] 46)) := ⟨_, rfl⟩
      have hBx : Below y7.heap.size y7 y9 := hW ▸ (Below.al (Below.refl _ _))
      have HQ : Hid (Own y7.heap.size ([.int .i64 q30, .int .i64 q31, .int .i64 q32]) y9) := Lib.hid (hW ▸ (show Own y7.heap.size ([.int .i64 q30, .int .i64 q31, .int .i64 q32]) (y7.alloc (.cells #[.int .i64 q30, .int .i64 q31, .int .i64 q32] 46)) from Own.newAt (by simp)))
      rw [← hW]
      clear hW
      obtain ⟨Q, eQ⟩ : ∃ X, X = y7.heap.size := ⟨_, rfl⟩
      rw [← eQ] at HQ ⊢
      have Qw : y7.heap.size ≤ Q := by omega
      clear eQ
      have nPQ : P ≠ Q := by have := HP.out.lt; omega
      have nQP : Q ≠ P := Ne.symm nPQ
      have HP_ := Lib.hid (HP.out.later hBx)
      clear HP
      have HP := HP_
      clear HP_
      have nXQ : X ≠ Q := by have := HX.out.lt; omega
      have nQX : Q ≠ X := Ne.symm nXQ
      have HX_ := Lib.hid (HX.out.later hBx)
      clear HX
      have HX := HX_
      clear HX_
      have nAQ : A ≠ Q := by have := HA.out.lt; omega
      have nQA : Q ≠ A := Ne.symm nAQ
      have HA_ := Lib.hid (HA.out.later hBx)
      clear HA
      have HA := HA_
      clear HA_
      have HB_ := Lib.hid (Below.go HB.out hBx)
      clear HB hBx Qw
      have HB := HB_
      clear HB_
      have oP := HP.out
      have P0 := oP.at 0 _ rfl
      have Pf0 := oP.ok 0 (by simp)
      have P1 := oP.at 1 _ rfl
      have Pf1 := oP.ok 1 (by simp)
      have P2 := oP.at 2 _ rfl
      have Pf2 := oP.ok 2 (by simp)
      have Pl := oP.lt
      clear oP
      have oQ := HQ.out
      have Q0 := oQ.at 0 _ rfl
      have Q1 := oQ.at 1 _ rfl
      have Q2 := oQ.at 2 _ rfl
      have Ql := oQ.lt
      clear oQ
      go_upto_region 14 with fail
      rw [show (((y9.setCell ⟨P, 0, none⟩ (.int .i64 (min l20 q30))).setCell ⟨P, 1, none⟩ (.int .i64 (min l21 q31))).setCell ⟨P, 2, none⟩ (.int .i64 (min l22 q32))) = y9.setCells P 0 [.int .i64 (min l20 q30), .int .i64 (min l21 q31), .int .i64 (min l22 q32)] from rfl]
      have hbp : But P y9 (y9.setCells P 0 [.int .i64 (min l20 q30), .int .i64 (min l21 q31), .int .i64 (min l22 q32)]) := But.store
      have HPn : Hid (Own P [.int .i64 (min l20 q30), .int .i64 (min l21 q31), .int .i64 (min l22 q32)] (y9.setCells P 0 [.int .i64 (min l20 q30), .int .i64 (min l21 q31), .int .i64 (min l22 q32)])) := Lib.hid (Own.store HP.out rfl)
      have HXn := Lib.hid (HX.out.but hbp nXP); have HAn := Lib.hid (HA.out.but hbp nAP); have HQn := Lib.hid (HQ.out.but hbp nQP)
      have HBn : Hid (Below w.heap.size w (y9.setCells P 0 [.int .i64 (min l20 q30), .int .i64 (min l21 q31), .int .i64 (min l22 q32)])) := Lib.hid (Below.setCells HB.out Pw _ _)
      clear P0 P1 P2 Pf0 Pf1 Pf2 Pl Q0 Q1 Q2 Ql HP HX HA HQ HB hbp
      generalize y9.setCells P 0 [.int .i64 (min l20 q30), .int .i64 (min l21 q31), .int .i64 (min l22 q32)] = y10 at *
      have oX := HXn.out
      have X0 := oX.at 0 _ rfl
      have Xf0 := oX.ok 0 (by simp)
      have X1 := oX.at 1 _ rfl
      have Xf1 := oX.ok 1 (by simp)
      have X2 := oX.at 2 _ rfl
      have Xf2 := oX.ok 2 (by simp)
      have Xl := oX.lt
      clear oX
      have oQ := HQn.out
      have Q0 := oQ.at 0 _ rfl
      have Q1 := oQ.at 1 _ rfl
      have Q2 := oQ.at 2 _ rfl
      have Ql := oQ.lt
      clear oQ
      go_upto_region 15 with fail
      rw [show (((y10.setCell ⟨X, 0, none⟩ (.int .i64 (max h20 q30))).setCell ⟨X, 1, none⟩ (.int .i64 (max h21 q31))).setCell ⟨X, 2, none⟩ (.int .i64 (max h22 q32))) = y10.setCells X 0 [.int .i64 (max h20 q30), .int .i64 (max h21 q31), .int .i64 (max h22 q32)] from rfl]
      have hbx : But X y10 (y10.setCells X 0 [.int .i64 (max h20 q30), .int .i64 (max h21 q31), .int .i64 (max h22 q32)]) := But.store
      have HX : Hid (Own X [.int .i64 (max h20 q30), .int .i64 (max h21 q31), .int .i64 (max h22 q32)] (y10.setCells X 0 [.int .i64 (max h20 q30), .int .i64 (max h21 q31), .int .i64 (max h22 q32)])) := Lib.hid (Own.store HXn.out rfl)
      have HP := Lib.hid (HPn.out.but hbx nPX); have HA := Lib.hid (HAn.out.but hbx nAX)
      have HB : Hid (Below w.heap.size w (y10.setCells X 0 [.int .i64 (max h20 q30), .int .i64 (max h21 q31), .int .i64 (max h22 q32)])) := Lib.hid (Below.setCells HBn.out Xw _ _)
      clear X0 X1 X2 Xf0 Xf1 Xf2 Xl Q0 Q1 Q2 Ql HPn HXn HAn HQn HBn hbx nPQ nQP nXQ nQX nAQ nQA
      generalize y10.setCells X 0 [.int .i64 (max h20 q30), .int .i64 (max h21 q31), .int .i64 (max h22 q32)] = y11 at *
      generalize min l20 q30 = l30 at *
      generalize min l21 q31 = l31 at *
      generalize min l22 q32 = l32 at *
      generalize max h20 q30 = h30 at *
      generalize max h21 q31 = h31 at *
      generalize max h22 q32 = h32 at *
      have BX := BX2
      clear BX2
      go_wp2_with (fail)
      rw [rounds_succ]
      go_wp2_with (fail)
      have BX3 : Hid (Box3 V R (nt * 3) ((k + 1) * 3) l30 l31 l32 h30 h31 h32) := Lib.hid (by rw [Nat.succ_mul]; exact BX.out)
      go_roundw
      case rel => (first | exact ⟨k + 1, l30, l31, l32, h30, h31, h32, HLT.out, by go_num, BX3, HP, HX, HA, HB⟩ | ((repeat apply Exists.intro); exact ⟨⟨k + 1, l30, l31, l32, h30, h31, h32, HLT.out, by go_num, BX3, HP, HX, HA, HB⟩, rfl⟩))
      case measure => (have := HLT.out; simp [intOf]; omega)
    · obtain rfl : k = nt := by omega
      clear hlt hk
      go_upto_region 17 with fail
      have oP := HP.out
      have P0 := oP.at 0 _ rfl
      have Pf0 := oP.ok 0 (by simp)
      have P1 := oP.at 1 _ rfl
      have Pf1 := oP.ok 1 (by simp)
      have P2 := oP.at 2 _ rfl
      have Pf2 := oP.ok 2 (by simp)
      have Pl := oP.lt
      clear oP
      have oX := HX.out
      have X0 := oX.at 0 _ rfl
      have Xf0 := oX.ok 0 (by simp)
      have X1 := oX.at 1 _ rfl
      have Xf1 := oX.ok 1 (by simp)
      have X2 := oX.at 2 _ rfl
      have Xf2 := oX.ok 2 (by simp)
      have Xl := oX.lt
      clear oX
      go_region_held3 (fun w' => w' = wr.drew) (first | rfl | assumption) (fail)
      clear P0 Pf0 P1 Pf1 P2 Pf2 Pl X0 Xf0 X1 Xf1 X2 Xf2 Xl
      have HP2 := Lib.hid (HP.out.drew); have HX2 := Lib.hid (HX.out.drew); have HB2 := Lib.hid (HB.out.drew)
      generalize wr.drew = w2 at *
      go_wp2_with (fail)
      have hL1 := run_loadVar_mid (P := Try.prog) _ P 0 46 [.int .i64 l0, .int .i64 l1, .int .i64 l2] _ HP2.out.cell Try.underlying46 rfl (by kernel_rfl)
      have hL2 := run_loadVar_mid (P := Try.prog) _ X 0 46 [.int .i64 h0, .int .i64 h1, .int .i64 h2] _ HX2.out.cell Try.underlying46 rfl (by kernel_rfl)
      exact bodyPost_ret (v := .tuple #[.agg ([.int .i64 l0, .int .i64 l1, .int .i64 l2] : List Value).toArray, .agg ([.int .i64 h0, .int .i64 h1, .int .i64 h2] : List Value).toArray, .int .i64 0]) (res_three Try.results19 rfl hL1 rfl hL2 rfl) rfl ⟨⟨l0, l1, l2, h0, h1, h2, rfl, BX.out⟩, HB2.out⟩
end Go.Proofs.Ytnopcgkhoennfaa
