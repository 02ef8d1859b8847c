/- SL SJ SN SO SP SQ SR SS SV, in one text. -/
import Derived.Test.YtnopcgkhoennfaaSM
import Derived.Lib.Hide
import Derived.LoopN
import Derived.LoopTactic
import Derived.Deep.Onto
import Derived.Deep.RegionHeld3
import Derived.Deep.QuietTactic
import Derived.BigQuiet
import Derived.StillTailTactics
import Derived.Test.YtnopcgkhoennfaaSE
import Derived.Test.YtnopcgkhoennfaaSI
import Derived.Great.BuildSlice
import Derived.Test.YtnopcgkhoennfaaDL
import Derived.Test.YtnopcgkhoennfaaDQ
import Derived.Laws.MakeOwn
import Derived.Test.YtnopcgkhoennfaaSH
import Derived.Test.YtnopcgkhoennfaaSF
/- SL -/
namespace Go.Proofs.Ytnopcgkhoennfaa
set_option linter.unusedVariables false
set_option maxRecDepth 2000
set_option linter.unusedSimpArgs false
open Go.RowKit
attribute [local go_sem] setCell_self
attribute [local go_sem ↓] ix3_0 ix3_1 ix3_2
/-- the j-th corner's coordinate of an axis -/
def crn (V R : Nat → Int) (j a : Nat) : Int := V ((R j).toNat * 3 + a)
/-- l is the least, h the greatest of the first c of n corners' coordinates of an axis, as far as they go -/
structure BoxB (V R : Nat → Int) (n c a : Nat) (l h : Int) : Prop where
  all : ∀ j, j < c → l ≤ crn V R j a ∧ crn V R j a ≤ h
  lo : ∃ j, j < n ∧ l = crn V R j a
  hi : ∃ j, j < n ∧ h = crn V R j a
theorem BoxB.start {V R : Nat → Int} {n a : Nat} (h : 0 < n) : BoxB V R n 0 a (crn V R 0 a) (crn V R 0 a) := ⟨fun j hj => absurd hj (Nat.not_lt_zero j), ⟨0, h, rfl⟩, ⟨0, h, rfl⟩⟩
theorem BoxB.step {V R : Nat → Int} {n c a : Nat} {l h x : Int} (b : BoxB V R n c a l h) (hc : c < n) (hx : x = crn V R c a) : BoxB V R n (c + 1) a (min l x) (max h x) where
  all j hj := by
    by_cases e : j = c
    · subst e hx; omega
    · have := b.all j (by omega); omega
  lo := by
    rcases Int.le_total l x with h | h
    · rw [Int.min_eq_left h]; exact b.lo
    · rw [Int.min_eq_right h]; exact ⟨c, hc, hx⟩
  hi := by
    rcases Int.le_total h x with k | k
    · rw [Int.max_eq_right k]; exact ⟨c, hc, hx⟩
    · rw [Int.max_eq_left k]; exact b.hi
/-- of all three axes -/
def Box3 (V R : Nat → Int) (n c : Nat) (l0 l1 l2 h0 h1 h2 : Int) : Prop := BoxB V R n c 0 l0 h0 ∧ BoxB V R n c 1 l1 h1 ∧ BoxB V R n c 2 l2 h2
theorem Box3.step {V R : Nat → Int} {n c : Nat} {l0 l1 l2 h0 h1 h2 x y z : Int} (b : Box3 V R n c l0 l1 l2 h0 h1 h2) (hc : c < n) (hx : x = crn V R c 0) (hy : y = crn V R c 1) (hz : z = crn V R c 2) : Box3 V R n (c + 1) (min l0 x) (min l1 y) (min l2 z) (max h0 x) (max h1 y) (max h2 z) := ⟨b.1.step hc hx, b.2.1.step hc hy, b.2.2.step hc hz⟩
set_option maxHeartbeats 8000000 in
theorem Box_no (M : Msh) (z : Int) (w : World) (hM : MeshAt M w) (hz : chkM M = z) (h0 : z ≠ 0) : Calls Try.prog 19 #[(.agg #[.slice M.qv M.nv M.cv, .slice M.qu M.nu M.cu, .slice M.qt M.nt M.ct])] w fun e w' => e = .returned (.tuple #[(.agg #[.int .i64 0, .int .i64 0, .int .i64 0]), (.agg #[.int .i64 0, .int .i64 0, .int .i64 0]), .int .i64 z]) ∧ Below w.heap.size w w' := by
  have HM := Lib.hid hM
  have CK := Lib.hid (Check_any M)
  have HZ := Lib.hid hz
  have hd : (z != 0) = true := by simpa using h0
  clear hM hz h0
  go_enter Try.func19, Try.ntmps19
  go_upto_region 1 with fail
  obtain ⟨W0, hW⟩ : ∃ W0, W0 = (((w.alloc (.cells #[.slice M.qv M.nv M.cv, .slice M.qu M.nu M.cu, .slice M.qt M.nt M.ct] 26)).alloc (.cells #[.int .i64 0, .int .i64 0, .int .i64 0] 46)).alloc (.cells #[.int .i64 0, .int .i64 0, .int .i64 0] 46)) := ⟨_, rfl⟩
  have hB0 : Below w.heap.size w W0 := hW ▸ (Below.al (Below.al (Below.al (Below.refl _ _))))
  have HA : Hid (Own w.heap.size [.slice M.qv M.nv M.cv, .slice M.qu M.nu M.cu, .slice M.qt M.nt M.ct] W0) := Lib.hid (hW ▸ (Own.newAt (by simp)).alloc.alloc)
  have HP : Hid (Own (w.heap.size + 1) [.int .i64 0, .int .i64 0, .int .i64 0] W0) := Lib.hid (hW ▸ (Own.newAt (by simp)).alloc)
  have HX : Hid (Own ((w.heap.size + 1) + 1) [.int .i64 0, .int .i64 0, .int .i64 0] W0) := Lib.hid (hW ▸ (Own.newAt (by simp)))
  rw [← hW]
  clear hW
  obtain ⟨X, eX⟩ : ∃ X, X = ((w.heap.size + 1) + 1) := ⟨_, rfl⟩
  rw [← eX] at HX ⊢
  have Xw : w.heap.size ≤ X := by omega
  obtain ⟨P, eP⟩ : ∃ X, X = (w.heap.size + 1) := ⟨_, rfl⟩
  rw [← eP] at HP ⊢
  have Pw : w.heap.size ≤ P := by omega
  obtain ⟨A, eA⟩ : ∃ X, X = w.heap.size := ⟨_, rfl⟩
  rw [← eA] at HA ⊢
  have Aw : w.heap.size ≤ A := by omega
  have nAP : A ≠ P := by omega
  have nPA : P ≠ A := by omega
  have nAX : A ≠ X := by omega
  have nXA : X ≠ A := by omega
  have nPX : P ≠ X := by omega
  have nXP : X ≠ P := by omega
  clear eA eP eX
  have HM0 := Lib.hid (HM.out.later hB0)
  have oA := HA.out
  have A0 := oA.at 0 _ rfl
  have A1 := oA.at 1 _ rfl
  have A2 := oA.at 2 _ rfl
  have Al := oA.lt
  clear oA
  go_wp2_with (fail)
  go_at_call 11
  refine (CK.out _ HM0.out).mono ?_
  rintro e w1 ⟨rfl, hb⟩
  have HA1 := Lib.hid (HA.out.later hb); have HP1 := Lib.hid (HP.out.later hb); have HX1 := Lib.hid (HX.out.later hb); have HB1 := Lib.hid (Below.go hB0 hb)
  clear hb hB0 HM0 HA HP HX A0 A1 A2 Al
  rw [HZ.out]
  go_upto_region 3 with fail
  have oP := HP1.out
  have P0 := oP.at 0 _ rfl
  have Pf0 := oP.ok 0 (by simp)
  have P1 := oP.at 1 _ rfl
  have Pf1 := oP.ok 1 (by simp)
  have P2 := oP.at 2 _ rfl
  have Pf2 := oP.ok 2 (by simp)
  have Pl := oP.lt
  clear oP
  have oX := HX1.out
  have X0 := oX.at 0 _ rfl
  have Xf0 := oX.ok 0 (by simp)
  have X1 := oX.at 1 _ rfl
  have Xf1 := oX.ok 1 (by simp)
  have X2 := oX.at 2 _ rfl
  have Xf2 := oX.ok 2 (by simp)
  have Xl := oX.lt
  clear oX
  go_region_held3 (fun w' => w' = w1.drew) (first | rfl | assumption) (fail)
  clear P0 Pf0 P1 Pf1 P2 Pf2 Pl X0 Xf0 X1 Xf1 X2 Xf2 Xl
  have HP2 := Lib.hid (HP1.out.drew); have HX2 := Lib.hid (HX1.out.drew); have HB2 := Lib.hid (HB1.out.drew)
  generalize w1.drew = w2 at *
  go_wp2_with (fail)
  have hL1 := run_loadVar_mid (P := Try.prog) _ P 0 46 [.int .i64 0, .int .i64 0, .int .i64 0] _ HP2.out.cell Try.underlying46 rfl (by kernel_rfl)
  have hL2 := run_loadVar_mid (P := Try.prog) _ X 0 46 [.int .i64 0, .int .i64 0, .int .i64 0] _ HX2.out.cell Try.underlying46 rfl (by kernel_rfl)
  exact bodyPost_ret (v := .tuple #[.agg ([.int .i64 0, .int .i64 0, .int .i64 0] : List Value).toArray, .agg ([.int .i64 0, .int .i64 0, .int .i64 0] : List Value).toArray, .int .i64 z]) (res_three Try.results19 rfl hL1 rfl hL2 rfl) rfl ⟨rfl, HB2.out⟩
set_option maxHeartbeats 16000000 in
theorem Box_yes (M : Msh) (w : World) (hM : MeshAt M w) (hz : chkM M = 0) : Calls Try.prog 19 #[(.agg #[.slice M.qv M.nv M.cv, .slice M.qu M.nu M.cu, .slice M.qt M.nt M.ct])] w fun e w' => (∃ l0 l1 l2 h0 h1 h2, e = .returned (.tuple #[(.agg #[.int .i64 l0, .int .i64 l1, .int .i64 l2]), (.agg #[.int .i64 h0, .int .i64 h1, .int .i64 h2]), .int .i64 0]) ∧ Box3 M.V M.R (M.nt * 3) (M.nt * 3) l0 l1 l2 h0 h1 h2) ∧ Below w.heap.size w w' := by
  have HZ := Lib.hid hz
  have HM := Lib.hid hM
  have CK := Lib.hid (Check_any M)
  have GD := Lib.hid (chk_good (show chkF M.nv M.nu M.nt M.V M.U M.R = 0 from hz))
  obtain ⟨qv, nv, cv, V, qu, nu, cu, U, qt, nt, ct, R⟩ := M
  dsimp only at *
  have nn := GD.out.hn
  have nt1 := GD.out.ht
  obtain ⟨D3, o3, eqt, hD3, -⟩ := hM.t.at3 (i := 0) (show 0 < nt by omega)
  obtain ⟨DV, oV, eqv, hDV, -⟩ := hM.v.at3 (i := 0) (show 0 < nv by omega)
  dsimp only at *
  subst eqv eqt
  have HV := Lib.hid (fun (W : World) (hW : Below w.heap.size w W) (j : Nat) (hj : j < nv) => show Has DV (oV + j * 3) [.int .i64 (V (j * 3)), .int .i64 (V (j * 3 + 1)), .int .i64 (V (j * 3 + 2))] W by
    obtain ⟨D, o, eq, hD, c0, c1, c2⟩ := hM.v.at3 hj
    cases eq
    exact Has.later ⟨hD, fun j v hj => by
      match j, hj with
      | 0, hj => cases hj; exact c0
      | 1, hj => cases hj; exact c1
      | 2, hj => cases hj; exact c2⟩ hW)
  have HT := Lib.hid (fun (W : World) (hW : Below w.heap.size w W) (k : Nat) (hk : k < nt) => show Has D3 (o3 + k * 3) [.int .i64 (((R (k * 3)).toNat : Nat) : Int), .int .i64 (((R (k * 3 + 1)).toNat : Nat) : Int), .int .i64 (((R (k * 3 + 2)).toNat : Nat) : Int)] W by
    obtain ⟨D, o, eq, hD, c0, c1, c2⟩ := hM.t.at3 hk
    cases eq
    have g0 := GD.out.t (k * 3) (by omega); have g1 := GD.out.t (k * 3 + 1) (by omega); have g2 := GD.out.t (k * 3 + 2) (by omega)
    exact Has.later ⟨hD, fun j v hj => by
      match j, hj with
      | 0, hj => cases hj; rw [show (((R (k * 3)).toNat : Nat) : Int) = R (k * 3) by omega]; exact c0
      | 1, hj => cases hj; rw [show (((R (k * 3 + 1)).toNat : Nat) : Int) = R (k * 3 + 1) by omega]; exact c1
      | 2, hj => cases hj; rw [show (((R (k * 3 + 2)).toNat : Nat) : Int) = R (k * 3 + 2) by omega]; exact c2⟩ hW)
  have GT := Lib.hid (fun j (hj : j < nt * 3) => show (R j).toNat < nv by have := GD.out.t j hj; omega)
  have N1 := Lib.hid nt1
  obtain ⟨j0, e0⟩ : ∃ j, (R 0).toNat = j := ⟨_, rfl⟩
  have J0 := Lib.hid e0
  have JL := Lib.hid (show j0 < nv by rw [← e0]; exact GT.out 0 (by omega))
  have B0 : Hid (Box3 V R (nt * 3) 0 (V (j0 * 3)) (V (j0 * 3 + 1)) (V (j0 * 3 + 2)) (V (j0 * 3)) (V (j0 * 3 + 1)) (V (j0 * 3 + 2))) := Lib.hid (by
    rw [← e0]
    exact ⟨BoxB.start (by omega), BoxB.start (by omega), BoxB.start (by omega)⟩)
  clear hM hz e0 GD nn nt1 hD3 hDV
  go_enter Try.func19, Try.ntmps19
  go_upto_region 1 with fail
  obtain ⟨W0, hW⟩ : ∃ W0, W0 = (((w.alloc (.cells #[.slice (some ⟨DV, oV, none⟩) nv cv, .slice qu nu cu, .slice (some ⟨D3, o3, none⟩) nt ct] 26)).alloc (.cells #[.int .i64 0, .int .i64 0, .int .i64 0] 46)).alloc (.cells #[.int .i64 0, .int .i64 0, .int .i64 0] 46)) := ⟨_, rfl⟩
  have hB0 : Below w.heap.size w W0 := hW ▸ (Below.al (Below.al (Below.al (Below.refl _ _))))
  have HA : Hid (Own w.heap.size [.slice (some ⟨DV, oV, none⟩) nv cv, .slice qu nu cu, .slice (some ⟨D3, o3, none⟩) nt ct] W0) := Lib.hid (hW ▸ (Own.newAt (by simp)).alloc.alloc)
  have HP : Hid (Own (w.heap.size + 1) [.int .i64 0, .int .i64 0, .int .i64 0] W0) := Lib.hid (hW ▸ (Own.newAt (by simp)).alloc)
  have HX : Hid (Own ((w.heap.size + 1) + 1) [.int .i64 0, .int .i64 0, .int .i64 0] W0) := Lib.hid (hW ▸ (Own.newAt (by simp)))
  rw [← hW]
  clear hW
  obtain ⟨X, eX⟩ : ∃ X, X = ((w.heap.size + 1) + 1) := ⟨_, rfl⟩
  rw [← eX] at HX ⊢
  have Xw : w.heap.size ≤ X := by omega
  obtain ⟨P, eP⟩ : ∃ X, X = (w.heap.size + 1) := ⟨_, rfl⟩
  rw [← eP] at HP ⊢
  have Pw : w.heap.size ≤ P := by omega
  obtain ⟨A, eA⟩ : ∃ X, X = w.heap.size := ⟨_, rfl⟩
  rw [← eA] at HA ⊢
  have Aw : w.heap.size ≤ A := by omega
  have nAP : A ≠ P := by omega
  have nPA : P ≠ A := by omega
  have nAX : A ≠ X := by omega
  have nXA : X ≠ A := by omega
  have nPX : P ≠ X := by omega
  have nXP : X ≠ P := by omega
  clear eA eP eX
  have HM0 := Lib.hid (HM.out.later hB0)
  have oA := HA.out
  have A0 := oA.at 0 _ rfl
  have A1 := oA.at 1 _ rfl
  have A2 := oA.at 2 _ rfl
  have Al := oA.lt
  clear oA
  go_wp2_with (fail)
  go_at_call 11
  refine (CK.out _ HM0.out).mono ?_
  rintro e w1 ⟨rfl, hb⟩
  have HA1 := Lib.hid (HA.out.later hb); have HP1 := Lib.hid (HP.out.later hb); have HX1 := Lib.hid (HX.out.later hb); have HB1 := Lib.hid (Below.go hB0 hb)
  clear hb hB0 HM0 HA HP HX A0 A1 A2 Al
  rw [HZ.out]
  clear CK HZ
  have t0 : w1.cell? ⟨D3, o3, none⟩ = some (.int .i64 (j0 : Int)) := by
    have := (HT.out w1 HB1.out 0 (by have := N1.out; omega)).at 0 _ rfl
    rw [Nat.zero_mul, J0.out] at this
    exact this
  have Tl := (HT.out w1 HB1.out 0 (by have := N1.out; omega)).lt
  have V3 := HV.out w1 HB1.out j0 JL.out
  have v0 : w1.cell? ⟨DV, oV + j0 * 3, none⟩ = some (.int .i64 (V (j0 * 3))) := V3.at 0 _ rfl
  have v1 := V3.at 1 _ rfl; have v2 := V3.at 2 _ rfl
  have Vl := V3.lt
  have p0 : (0 : Int) ≤ (j0 : Int) := by omega
  have q0 : (j0 : Int) < (nv : Int) := by have := JL.out; omega
  have n0 : (0 : Int) < (nt : Int) := by have := N1.out; omega
  have n1 : 0 < nt := by have := N1.out; omega
  clear V3
  have oA := HA1.out
  have A0 := oA.at 0 _ rfl
  have A2 := oA.at 2 _ rfl
  have Al := oA.lt
  clear oA
  go_upto_region 4 with fail
  refine wp_region_still_tail 9 (by kernel_rfl) (by kernel_rfl) ?_; simp only [List.take_succ_cons, List.take_zero, List.drop_succ_cons, List.drop_zero]; change wpStill _ _ (World.drew _) (fun a1 => wpList _ _ _ _ a1 (World.drew _)) _ _; repeat still_step
  refine wpStill_nil ?_
  clear A0 A2 Al t0 Tl v0 v1 v2 Vl p0 q0 n0 n1
  have HPd := Lib.hid HP1.out.drew; have HXd := Lib.hid HX1.out.drew; have HAd := Lib.hid HA1.out.drew; have HBd := Lib.hid HB1.out.drew
  clear HP1 HX1 HA1 HB1
  generalize w1.drew = w2 at *
  obtain ⟨x0, E0⟩ : ∃ x, x = V (j0 * 3) := ⟨_, rfl⟩
  obtain ⟨x1, E1⟩ : ∃ x, x = V (j0 * 3 + 1) := ⟨_, rfl⟩
  obtain ⟨x2, E2⟩ : ∃ x, x = V (j0 * 3 + 2) := ⟨_, rfl⟩
  rw [← E0, ← E1, ← E2] at B0 ⊢
  clear E0 E1 E2
  refine wpList_store_mid rfl 46 _ _ rfl P 0 ([.int .i64 x0, .int .i64 x1, .int .i64 x2]).toArray rfl rfl HPd.out.free (by kernel_rfl) (by simp [Value.oneCell']) ?_
  have HPn : Hid (Own P [.int .i64 x0, .int .i64 x1, .int .i64 x2] (w2.setCells P 0 [.int .i64 x0, .int .i64 x1, .int .i64 x2])) := Lib.hid (Own.store HPd.out rfl)
  have hbp : But P w2 (w2.setCells P 0 [.int .i64 x0, .int .i64 x1, .int .i64 x2]) := But.store
  have HXn := Lib.hid (HXd.out.but hbp nXP); have HAn := Lib.hid (HAd.out.but hbp nAP)
  have HBn : Hid (Below w.heap.size w (w2.setCells P 0 [.int .i64 x0, .int .i64 x1, .int .i64 x2])) := Lib.hid (Below.setCells HBd.out Pw _ _)
  clear HPd HXd HAd HBd hbp
  change wpList _ _ _ [] _ (w2.setCells P 0 [.int .i64 x0, .int .i64 x1, .int .i64 x2])
  generalize w2.setCells P 0 [.int .i64 x0, .int .i64 x1, .int .i64 x2] = w3 at *
  have oP := HPn.out
  have P0 := oP.at 0 _ rfl
  have P1 := oP.at 1 _ rfl
  have P2 := oP.at 2 _ rfl
  have Pl := oP.lt
  clear oP
  have oX := HXn.out
  have X0 := oX.at 0 _ rfl
  have Xf0 := oX.ok 0 (by simp)
  have X1 := oX.at 1 _ rfl
  have Xf1 := oX.ok 1 (by simp)
  have X2 := oX.at 2 _ rfl
  have Xf2 := oX.ok 2 (by simp)
  have Xl := oX.lt
  clear oX
  go_upto_region 6 with fail
  rw [show (((w3.setCell ⟨X, 0, none⟩ (.int .i64 x0)).setCell ⟨X, 1, none⟩ (.int .i64 x1)).setCell ⟨X, 2, none⟩ (.int .i64 x2)) = w3.setCells X 0 [.int .i64 x0, .int .i64 x1, .int .i64 x2] from rfl]
  have hbx : But X w3 (w3.setCells X 0 [.int .i64 x0, .int .i64 x1, .int .i64 x2]) := But.store
  have HPm := Lib.hid (HPn.out.but hbx nPX)
  have HXm : Hid (Own X [.int .i64 x0, .int .i64 x1, .int .i64 x2] (w3.setCells X 0 [.int .i64 x0, .int .i64 x1, .int .i64 x2])) := Lib.hid (Own.store HXn.out rfl)
  have HAm := Lib.hid (HAn.out.but hbx nAX)
  have HBm : Hid (Below w.heap.size w (w3.setCells X 0 [.int .i64 x0, .int .i64 x1, .int .i64 x2])) := Lib.hid (Below.setCells HBn.out Xw _ _)
  clear HPn HXn HAn HBn hbx P0 P1 P2 Pl X0 Xf0 X1 Xf1 X2 Xf2 Xl
  generalize w3.setCells X 0 [.int .i64 x0, .int .i64 x1, .int .i64 x2] = w4 at *
  have oA := HAm.out
  have A2 := oA.at 2 _ rfl
  have Al := oA.lt
  clear oA
  go_wp2_with (fail)
  clear A2 Al
  go_loopw [30] (fun iv wr => ∃ (k : Nat) (l0 l1 l2 h0 h1 h2 : Int), k ≤ nt ∧ iv = .int .i64 k ∧ Hid (Box3 V R (nt * 3) (k * 3) l0 l1 l2 h0 h1 h2) ∧ Hid (Own P [.int .i64 l0, .int .i64 l1, .int .i64 l2] wr) ∧ Hid (Own X [.int .i64 h0, .int .i64 h1, .int .i64 h2] wr) ∧ Hid (Own A [.slice (some ⟨DV, oV, none⟩) nv cv, .slice qu nu cu, .slice (some ⟨D3, o3, none⟩) nt ct] wr) ∧ Hid (Below w.heap.size w wr)) (fun iv _ => (nt - (intOf iv).toNat))
  case atStart => exact ⟨0, x0, x1, x2, x0, x1, x2, Nat.zero_le _, rfl, B0, HPm, HXm, HAm, HBm⟩
  case round =>
    clear B0 HPm HXm HAm HBm
    obtain ⟨k, l0, l1, l2, h0, h1, h2, hk, rfl, BX, HP, HX, HA, HB⟩ := hrel
    by_cases hlt : k < nt
    · have hki : (k : Int) < (nt : Int) := by omega
      have k0 : (0 : Int) ≤ (k : Int) := by omega
      have wk : IntKind.i64.wrap ((k : Int) + 1) = (k : Int) + 1 := IntWalk.i64_in _ (by have := N1.out; omega)
      have HLT := Lib.hid hlt
      have T3 := HT.out wr HB.out k hlt
      obtain ⟨j1, e1⟩ : ∃ j, (R (k * 3)).toNat = j := ⟨_, rfl⟩
      obtain ⟨j2, e2⟩ : ∃ j, (R (k * 3 + 1)).toNat = j := ⟨_, rfl⟩
      obtain ⟨j3, e3⟩ : ∃ j, (R (k * 3 + 2)).toNat = j := ⟨_, rfl⟩
      rw [e1, e2, e3] at T3
      have t0 : wr.cell? ⟨D3, o3 + k * 3, none⟩ = some (.int .i64 (j1 : Int)) := T3.at 0 _ rfl
      have t1 : wr.cell? ⟨D3, o3 + k * 3 + 1, none⟩ = some (.int .i64 (j2 : Int)) := T3.at 1 _ rfl
      have t2 : wr.cell? ⟨D3, o3 + k * 3 + 2, none⟩ = some (.int .i64 (j3 : Int)) := T3.at 2 _ rfl
      have Tl := T3.lt
      have JB1 := Lib.hid (show j1 < nv by rw [← e1]; exact GT.out _ (by omega)); have JB2 := Lib.hid (show j2 < nv by rw [← e2]; exact GT.out _ (by omega)); have JB3 := Lib.hid (show j3 < nv by rw [← e3]; exact GT.out _ (by omega))
      have JE1 := Lib.hid e1; have JE2 := Lib.hid e2; have JE3 := Lib.hid e3
      have K3 := Lib.hid (show k * 3 + 2 < nt * 3 by omega)
      clear hk hlt T3 e1 e2 e3
      go_upto_region 9 with fail
      clear t0 t1 t2 Tl
      obtain ⟨y0, hW⟩ : ∃ y0, y0 = (wr.alloc (.cells #[.int .i64 (j1 : Int), .int .i64 (j2 : Int), .int .i64 (j3 : Int)] 52)) := ⟨_, rfl⟩
      have hBx : Below wr.heap.size wr y0 := hW ▸ (Below.al (Below.refl _ _))
      have HTt : Hid (Own wr.heap.size ([.int .i64 (j1 : Int), .int .i64 (j2 : Int), .int .i64 (j3 : Int)]) y0) := Lib.hid (hW ▸ (show Own wr.heap.size ([.int .i64 (j1 : Int), .int .i64 (j2 : Int), .int .i64 (j3 : Int)]) (wr.alloc (.cells #[.int .i64 (j1 : Int), .int .i64 (j2 : Int), .int .i64 (j3 : Int)] 52)) from Own.newAt (by simp)))
      rw [← hW]
      clear hW
      obtain ⟨T, eT⟩ : ∃ X, X = wr.heap.size := ⟨_, rfl⟩
      rw [← eT] at HTt ⊢
      have Tw : wr.heap.size ≤ T := by omega
      clear eT
      have nPT : P ≠ T := by have := HP.out.lt; omega
      have nTP : T ≠ P := Ne.symm nPT
      have HP_ := Lib.hid (HP.out.later hBx)
      clear HP
      have HP := HP_
      clear HP_
      have nXT : X ≠ T := by have := HX.out.lt; omega
      have nTX : T ≠ X := Ne.symm nXT
      have HX_ := Lib.hid (HX.out.later hBx)
      clear HX
      have HX := HX_
      clear HX_
      have nAT : A ≠ T := by have := HA.out.lt; omega
      have nTA : T ≠ A := Ne.symm nAT
      have HA_ := Lib.hid (HA.out.later hBx)
      clear HA
      have HA := HA_
      clear HA_
      have HB_ := Lib.hid (Below.go HB.out hBx)
      clear HB hBx Tw
      have HB := HB_
      clear HB_
      have oT := HTt.out
      have T0 := oT.at 0 _ rfl
      have T1 := oT.at 1 _ rfl
      have T2 := oT.at 2 _ rfl
      have Tl := oT.lt
      clear oT
      go_wp2_with (fail)
      clear T0 T1 T2 Tl HTt
      refine wp_loop_rounds 4 ?_
      rw [rounds_succ]
      have V3 := HV.out y0 HB.out j1 JB1.out
      obtain ⟨q10, eq0⟩ : ∃ x, x = V (j1 * 3) := ⟨_, rfl⟩
      obtain ⟨q11, eq1⟩ : ∃ x, x = V (j1 * 3 + 1) := ⟨_, rfl⟩
      obtain ⟨q12, eq2⟩ : ∃ x, x = V (j1 * 3 + 2) := ⟨_, rfl⟩
      rw [← eq0, ← eq1, ← eq2] at V3
      have v0 : y0.cell? ⟨DV, oV + j1 * 3, none⟩ = some (.int .i64 q10) := V3.at 0 _ rfl
      have v1 : y0.cell? ⟨DV, oV + j1 * 3 + 1, none⟩ = some (.int .i64 q11) := V3.at 1 _ rfl
      have v2 : y0.cell? ⟨DV, oV + j1 * 3 + 2, none⟩ = some (.int .i64 q12) := V3.at 2 _ rfl
      have Vl := V3.lt
      have p0 : (0 : Int) ≤ (j1 : Int) := by omega
      have p1 : (j1 : Int) < (nv : Int) := by have := JB1.out; omega
      have BX2 : Hid (Box3 V R (nt * 3) (k * 3 + 1) ((min l0 q10)) ((min l1 q11)) ((min l2 q12)) ((max h0 q10)) ((max h1 q11)) ((max h2 q12))) := Lib.hid (BX.out.step (by have := K3.out; omega) (by unfold crn; rw [JE1.out]; exact eq0) (by unfold crn; rw [JE1.out]; exact eq1) (by unfold crn; rw [JE1.out]; exact eq2))
      clear V3 eq0 eq1 eq2 BX
      have oA := HA.out
      have A0 := oA.at 0 _ rfl
      have Al := oA.lt
      clear oA
      go_upto_region 13 with fail
      clear A0 Al v0 v1 v2 Vl p0 p1
      obtain ⟨y1, hW⟩ : ∃ y1, y1 = (y0.alloc (.cells #[.int .i64 q10, .int .i64 q11, .int .i64 q12] 46)) := ⟨_, rfl⟩
      have hBx : Below y0.heap.size y0 y1 := hW ▸ (Below.al (Below.refl _ _))
      have HQ : Hid (Own y0.heap.size ([.int .i64 q10, .int .i64 q11, .int .i64 q12]) y1) := Lib.hid (hW ▸ (show Own y0.heap.size ([.int .i64 q10, .int .i64 q11, .int .i64 q12]) (y0.alloc (.cells #[.int .i64 q10, .int .i64 q11, .int .i64 q12] 46)) from Own.newAt (by simp)))
      rw [← hW]
      clear hW
      obtain ⟨Q, eQ⟩ : ∃ X, X = y0.heap.size := ⟨_, rfl⟩
      rw [← eQ] at HQ ⊢
      have Qw : y0.heap.size ≤ Q := by omega
      clear eQ
      have nPQ : P ≠ Q := by have := HP.out.lt; omega
      have nQP : Q ≠ P := Ne.symm nPQ
      have HP_ := Lib.hid (HP.out.later hBx)
      clear HP
      have HP := HP_
      clear HP_
      have nXQ : X ≠ Q := by have := HX.out.lt; omega
      have nQX : Q ≠ X := Ne.symm nXQ
      have HX_ := Lib.hid (HX.out.later hBx)
      clear HX
      have HX := HX_
      clear HX_
      have nAQ : A ≠ Q := by have := HA.out.lt; omega
      have nQA : Q ≠ A := Ne.symm nAQ
      have HA_ := Lib.hid (HA.out.later hBx)
      clear HA
      have HA := HA_
      clear HA_
      have HB_ := Lib.hid (Below.go HB.out hBx)
      clear HB hBx Qw
      have HB := HB_
      clear HB_
      have oP := HP.out
      have P0 := oP.at 0 _ rfl
      have Pf0 := oP.ok 0 (by simp)
      have P1 := oP.at 1 _ rfl
      have Pf1 := oP.ok 1 (by simp)
      have P2 := oP.at 2 _ rfl
      have Pf2 := oP.ok 2 (by simp)
      have Pl := oP.lt
      clear oP
      have oQ := HQ.out
      have Q0 := oQ.at 0 _ rfl
      have Q1 := oQ.at 1 _ rfl
      have Q2 := oQ.at 2 _ rfl
      have Ql := oQ.lt
      clear oQ
      go_upto_region 14 with fail
      rw [show (((y1.setCell ⟨P, 0, none⟩ (.int .i64 (min l0 q10))).setCell ⟨P, 1, none⟩ (.int .i64 (min l1 q11))).setCell ⟨P, 2, none⟩ (.int .i64 (min l2 q12))) = y1.setCells P 0 [.int .i64 (min l0 q10), .int .i64 (min l1 q11), .int .i64 (min l2 q12)] from rfl]
      have hbp : But P y1 (y1.setCells P 0 [.int .i64 (min l0 q10), .int .i64 (min l1 q11), .int .i64 (min l2 q12)]) := But.store
      have HPn : Hid (Own P [.int .i64 (min l0 q10), .int .i64 (min l1 q11), .int .i64 (min l2 q12)] (y1.setCells P 0 [.int .i64 (min l0 q10), .int .i64 (min l1 q11), .int .i64 (min l2 q12)])) := Lib.hid (Own.store HP.out rfl)
      have HXn := Lib.hid (HX.out.but hbp nXP); have HAn := Lib.hid (HA.out.but hbp nAP); have HQn := Lib.hid (HQ.out.but hbp nQP)
      have HBn : Hid (Below w.heap.size w (y1.setCells P 0 [.int .i64 (min l0 q10), .int .i64 (min l1 q11), .int .i64 (min l2 q12)])) := Lib.hid (Below.setCells HB.out Pw _ _)
      clear P0 P1 P2 Pf0 Pf1 Pf2 Pl Q0 Q1 Q2 Ql HP HX HA HQ HB hbp
      generalize y1.setCells P 0 [.int .i64 (min l0 q10), .int .i64 (min l1 q11), .int .i64 (min l2 q12)] = y2 at *
      have oX := HXn.out
      have X0 := oX.at 0 _ rfl
      have Xf0 := oX.ok 0 (by simp)
      have X1 := oX.at 1 _ rfl
      have Xf1 := oX.ok 1 (by simp)
      have X2 := oX.at 2 _ rfl
      have Xf2 := oX.ok 2 (by simp)
      have Xl := oX.lt
      clear oX
      have oQ := HQn.out
      have Q0 := oQ.at 0 _ rfl
      have Q1 := oQ.at 1 _ rfl
      have Q2 := oQ.at 2 _ rfl
      have Ql := oQ.lt
      clear oQ
      go_upto_region 15 with fail
      rw [show (((y2.setCell ⟨X, 0, none⟩ (.int .i64 (max h0 q10))).setCell ⟨X, 1, none⟩ (.int .i64 (max h1 q11))).setCell ⟨X, 2, none⟩ (.int .i64 (max h2 q12))) = y2.setCells X 0 [.int .i64 (max h0 q10), .int .i64 (max h1 q11), .int .i64 (max h2 q12)] from rfl]
      have hbx : But X y2 (y2.setCells X 0 [.int .i64 (max h0 q10), .int .i64 (max h1 q11), .int .i64 (max h2 q12)]) := But.store
      have HX : Hid (Own X [.int .i64 (max h0 q10), .int .i64 (max h1 q11), .int .i64 (max h2 q12)] (y2.setCells X 0 [.int .i64 (max h0 q10), .int .i64 (max h1 q11), .int .i64 (max h2 q12)])) := Lib.hid (Own.store HXn.out rfl)
      have HP := Lib.hid (HPn.out.but hbx nPX); have HA := Lib.hid (HAn.out.but hbx nAX)
      have HB : Hid (Below w.heap.size w (y2.setCells X 0 [.int .i64 (max h0 q10), .int .i64 (max h1 q11), .int .i64 (max h2 q12)])) := Lib.hid (Below.setCells HBn.out Xw _ _)
      clear X0 X1 X2 Xf0 Xf1 Xf2 Xl Q0 Q1 Q2 Ql HPn HXn HAn HQn HBn hbx nPQ nQP nXQ nQX nAQ nQA
      generalize y2.setCells X 0 [.int .i64 (max h0 q10), .int .i64 (max h1 q11), .int .i64 (max h2 q12)] = y3 at *
      generalize min l0 q10 = l10 at *
      generalize min l1 q11 = l11 at *
      generalize min l2 q12 = l12 at *
      generalize max h0 q10 = h10 at *
      generalize max h1 q11 = h11 at *
      generalize max h2 q12 = h12 at *
      have BX := BX2
      clear BX2
      go_wp2_with (fail)
      rw [rounds_succ]
      have V3 := HV.out y3 HB.out j2 JB2.out
      obtain ⟨q20, eq0⟩ : ∃ x, x = V (j2 * 3) := ⟨_, rfl⟩
      obtain ⟨q21, eq1⟩ : ∃ x, x = V (j2 * 3 + 1) := ⟨_, rfl⟩
      obtain ⟨q22, eq2⟩ : ∃ x, x = V (j2 * 3 + 2) := ⟨_, rfl⟩
      rw [← eq0, ← eq1, ← eq2] at V3
      have v0 : y3.cell? ⟨DV, oV + j2 * 3, none⟩ = some (.int .i64 q20) := V3.at 0 _ rfl
      have v1 : y3.cell? ⟨DV, oV + j2 * 3 + 1, none⟩ = some (.int .i64 q21) := V3.at 1 _ rfl
      have v2 : y3.cell? ⟨DV, oV + j2 * 3 + 2, none⟩ = some (.int .i64 q22) := V3.at 2 _ rfl
      have Vl := V3.lt
      have p0 : (0 : Int) ≤ (j2 : Int) := by omega
      have p1 : (j2 : Int) < (nv : Int) := by have := JB2.out; omega
      have BX2 : Hid (Box3 V R (nt * 3) (k * 3 + 1 + 1) ((min l10 q20)) ((min l11 q21)) ((min l12 q22)) ((max h10 q20)) ((max h11 q21)) ((max h12 q22))) := Lib.hid (BX.out.step (by have := K3.out; omega) (by unfold crn; rw [JE2.out]; exact eq0) (by unfold crn; rw [JE2.out]; exact eq1) (by unfold crn; rw [JE2.out]; exact eq2))
      clear V3 eq0 eq1 eq2 BX
      have oA := HA.out
      have A0 := oA.at 0 _ rfl
      have Al := oA.lt
      clear oA
      go_upto_region 13 with fail
      clear A0 Al v0 v1 v2 Vl p0 p1
      obtain ⟨y5, hW⟩ : ∃ y5, y5 = (y3.alloc (.cells #[.int .i64 q20, .int .i64 q21, .int .i64 q22] 46)) := ⟨_, rfl⟩
      have hBx : Below y3.heap.size y3 y5 := hW ▸ (Below.al (Below.refl _ _))
      have HQ : Hid (Own y3.heap.size ([.int .i64 q20, .int .i64 q21, .int .i64 q22]) y5) := Lib.hid (hW ▸ (show Own y3.heap.size ([.int .i64 q20, .int .i64 q21, .int .i64 q22]) (y3.alloc (.cells #[.int .i64 q20, .int .i64 q21, .int .i64 q22] 46)) from Own.newAt (by simp)))
      rw [← hW]
      clear hW
      obtain ⟨Q, eQ⟩ : ∃ X, X = y3.heap.size := ⟨_, rfl⟩
      rw [← eQ] at HQ ⊢
      have Qw : y3.heap.size ≤ Q := by omega
      clear eQ
      have nPQ : P ≠ Q := by have := HP.out.lt; omega
      have nQP : Q ≠ P := Ne.symm nPQ
      have HP_ := Lib.hid (HP.out.later hBx)
      clear HP
      have HP := HP_
      clear HP_
      have nXQ : X ≠ Q := by have := HX.out.lt; omega
      have nQX : Q ≠ X := Ne.symm nXQ
      have HX_ := Lib.hid (HX.out.later hBx)
      clear HX
      have HX := HX_
      clear HX_
      have nAQ : A ≠ Q := by have := HA.out.lt; omega
      have nQA : Q ≠ A := Ne.symm nAQ
      have HA_ := Lib.hid (HA.out.later hBx)
      clear HA
      have HA := HA_
      clear HA_
      have HB_ := Lib.hid (Below.go HB.out hBx)
      clear HB hBx Qw
      have HB := HB_
      clear HB_
      have oP := HP.out
      have P0 := oP.at 0 _ rfl
      have Pf0 := oP.ok 0 (by simp)
      have P1 := oP.at 1 _ rfl
      have Pf1 := oP.ok 1 (by simp)
      have P2 := oP.at 2 _ rfl
      have Pf2 := oP.ok 2 (by simp)
      have Pl := oP.lt
      clear oP
      have oQ := HQ.out
      have Q0 := oQ.at 0 _ rfl
      have Q1 := oQ.at 1 _ rfl
      have Q2 := oQ.at 2 _ rfl
      have Ql := oQ.lt
      clear oQ
      go_upto_region 14 with fail
      rw [show (((y5.setCell ⟨P, 0, none⟩ (.int .i64 (min l10 q20))).setCell ⟨P, 1, none⟩ (.int .i64 (min l11 q21))).setCell ⟨P, 2, none⟩ (.int .i64 (min l12 q22))) = y5.setCells P 0 [.int .i64 (min l10 q20), .int .i64 (min l11 q21), .int .i64 (min l12 q22)] from rfl]
      have hbp : But P y5 (y5.setCells P 0 [.int .i64 (min l10 q20), .int .i64 (min l11 q21), .int .i64 (min l12 q22)]) := But.store
      have HPn : Hid (Own P [.int .i64 (min l10 q20), .int .i64 (min l11 q21), .int .i64 (min l12 q22)] (y5.setCells P 0 [.int .i64 (min l10 q20), .int .i64 (min l11 q21), .int .i64 (min l12 q22)])) := Lib.hid (Own.store HP.out rfl)
      have HXn := Lib.hid (HX.out.but hbp nXP); have HAn := Lib.hid (HA.out.but hbp nAP); have HQn := Lib.hid (HQ.out.but hbp nQP)
      have HBn : Hid (Below w.heap.size w (y5.setCells P 0 [.int .i64 (min l10 q20), .int .i64 (min l11 q21), .int .i64 (min l12 q22)])) := Lib.hid (Below.setCells HB.out Pw _ _)
      clear P0 P1 P2 Pf0 Pf1 Pf2 Pl Q0 Q1 Q2 Ql HP HX HA HQ HB hbp
      generalize y5.setCells P 0 [.int .i64 (min l10 q20), .int .i64 (min l11 q21), .int .i64 (min l12 q22)] = y6 at *
      have oX := HXn.out
      have X0 := oX.at 0 _ rfl
      have Xf0 := oX.ok 0 (by simp)
      have X1 := oX.at 1 _ rfl
      have Xf1 := oX.ok 1 (by simp)
      have X2 := oX.at 2 _ rfl
      have Xf2 := oX.ok 2 (by simp)
      have Xl := oX.lt
      clear oX
      have oQ := HQn.out
      have Q0 := oQ.at 0 _ rfl
      have Q1 := oQ.at 1 _ rfl
      have Q2 := oQ.at 2 _ rfl
      have Ql := oQ.lt
      clear oQ
      go_upto_region 15 with fail
      rw [show (((y6.setCell ⟨X, 0, none⟩ (.int .i64 (max h10 q20))).setCell ⟨X, 1, none⟩ (.int .i64 (max h11 q21))).setCell ⟨X, 2, none⟩ (.int .i64 (max h12 q22))) = y6.setCells X 0 [.int .i64 (max h10 q20), .int .i64 (max h11 q21), .int .i64 (max h12 q22)] from rfl]
      have hbx : But X y6 (y6.setCells X 0 [.int .i64 (max h10 q20), .int .i64 (max h11 q21), .int .i64 (max h12 q22)]) := But.store
      have HX : Hid (Own X [.int .i64 (max h10 q20), .int .i64 (max h11 q21), .int .i64 (max h12 q22)] (y6.setCells X 0 [.int .i64 (max h10 q20), .int .i64 (max h11 q21), .int .i64 (max h12 q22)])) := Lib.hid (Own.store HXn.out rfl)
      have HP := Lib.hid (HPn.out.but hbx nPX); have HA := Lib.hid (HAn.out.but hbx nAX)
      have HB : Hid (Below w.heap.size w (y6.setCells X 0 [.int .i64 (max h10 q20), .int .i64 (max h11 q21), .int .i64 (max h12 q22)])) := Lib.hid (Below.setCells HBn.out Xw _ _)
      clear X0 X1 X2 Xf0 Xf1 Xf2 Xl Q0 Q1 Q2 Ql HPn HXn HAn HQn HBn hbx nPQ nQP nXQ nQX nAQ nQA
      generalize y6.setCells X 0 [.int .i64 (max h10 q20), .int .i64 (max h11 q21), .int .i64 (max h12 q22)] = y7 at *
      generalize min l10 q20 = l20 at *
      generalize min l11 q21 = l21 at *
      generalize min l12 q22 = l22 at *
      generalize max h10 q20 = h20 at *
      generalize max h11 q21 = h21 at *
      generalize max h12 q22 = h22 at *
      have BX := BX2
      clear BX2
      go_wp2_with (fail)
      rw [rounds_succ]
      have V3 := HV.out y7 HB.out j3 JB3.out
      obtain ⟨q30, eq0⟩ : ∃ x, x = V (j3 * 3) := ⟨_, rfl⟩
      obtain ⟨q31, eq1⟩ : ∃ x, x = V (j3 * 3 + 1) := ⟨_, rfl⟩
      obtain ⟨q32, eq2⟩ : ∃ x, x = V (j3 * 3 + 2) := ⟨_, rfl⟩
      rw [← eq0, ← eq1, ← eq2] at V3
      have v0 : y7.cell? ⟨DV, oV + j3 * 3, none⟩ = some (.int .i64 q30) := V3.at 0 _ rfl
      have v1 : y7.cell? ⟨DV, oV + j3 * 3 + 1, none⟩ = some (.int .i64 q31) := V3.at 1 _ rfl
      have v2 : y7.cell? ⟨DV, oV + j3 * 3 + 2, none⟩ = some (.int .i64 q32) := V3.at 2 _ rfl
      have Vl := V3.lt
      have p0 : (0 : Int) ≤ (j3 : Int) := by omega
      have p1 : (j3 : Int) < (nv : Int) := by have := JB3.out; omega
      have BX2 : Hid (Box3 V R (nt * 3) (k * 3 + 2 + 1) ((min l20 q30)) ((min l21 q31)) ((min l22 q32)) ((max h20 q30)) ((max h21 q31)) ((max h22 q32))) := Lib.hid (BX.out.step (by have := K3.out; omega) (by unfold crn; rw [JE3.out]; exact eq0) (by unfold crn; rw [JE3.out]; exact eq1) (by unfold crn; rw [JE3.out]; exact eq2))
      clear V3 eq0 eq1 eq2 BX
      have oA := HA.out
      have A0 := oA.at 0 _ rfl
      have Al := oA.lt
      clear oA
      go_upto_region 13 with fail
      clear A0 Al v0 v1 v2 Vl p0 p1
      obtain ⟨y9, hW⟩ : ∃ y9, y9 = (y7.alloc (.cells #[.int .i64 q30, .int .i64 q31, .int .i64 q32] 46)) := ⟨_, rfl⟩
      have hBx : Below y7.heap.size y7 y9 := hW ▸ (Below.al (Below.refl _ _))
      have HQ : Hid (Own y7.heap.size ([.int .i64 q30, .int .i64 q31, .int .i64 q32]) y9) := Lib.hid (hW ▸ (show Own y7.heap.size ([.int .i64 q30, .int .i64 q31, .int .i64 q32]) (y7.alloc (.cells #[.int .i64 q30, .int .i64 q31, .int .i64 q32] 46)) from Own.newAt (by simp)))
      rw [← hW]
      clear hW
      obtain ⟨Q, eQ⟩ : ∃ X, X = y7.heap.size := ⟨_, rfl⟩
      rw [← eQ] at HQ ⊢
      have Qw : y7.heap.size ≤ Q := by omega
      clear eQ
      have nPQ : P ≠ Q := by have := HP.out.lt; omega
      have nQP : Q ≠ P := Ne.symm nPQ
      have HP_ := Lib.hid (HP.out.later hBx)
      clear HP
      have HP := HP_
      clear HP_
      have nXQ : X ≠ Q := by have := HX.out.lt; omega
      have nQX : Q ≠ X := Ne.symm nXQ
      have HX_ := Lib.hid (HX.out.later hBx)
      clear HX
      have HX := HX_
      clear HX_
      have nAQ : A ≠ Q := by have := HA.out.lt; omega
      have nQA : Q ≠ A := Ne.symm nAQ
      have HA_ := Lib.hid (HA.out.later hBx)
      clear HA
      have HA := HA_
      clear HA_
      have HB_ := Lib.hid (Below.go HB.out hBx)
      clear HB hBx Qw
      have HB := HB_
      clear HB_
      have oP := HP.out
      have P0 := oP.at 0 _ rfl
      have Pf0 := oP.ok 0 (by simp)
      have P1 := oP.at 1 _ rfl
      have Pf1 := oP.ok 1 (by simp)
      have P2 := oP.at 2 _ rfl
      have Pf2 := oP.ok 2 (by simp)
      have Pl := oP.lt
      clear oP
      have oQ := HQ.out
      have Q0 := oQ.at 0 _ rfl
      have Q1 := oQ.at 1 _ rfl
      have Q2 := oQ.at 2 _ rfl
      have Ql := oQ.lt
      clear oQ
      go_upto_region 14 with fail
      rw [show (((y9.setCell ⟨P, 0, none⟩ (.int .i64 (min l20 q30))).setCell ⟨P, 1, none⟩ (.int .i64 (min l21 q31))).setCell ⟨P, 2, none⟩ (.int .i64 (min l22 q32))) = y9.setCells P 0 [.int .i64 (min l20 q30), .int .i64 (min l21 q31), .int .i64 (min l22 q32)] from rfl]
      have hbp : But P y9 (y9.setCells P 0 [.int .i64 (min l20 q30), .int .i64 (min l21 q31), .int .i64 (min l22 q32)]) := But.store
      have HPn : Hid (Own P [.int .i64 (min l20 q30), .int .i64 (min l21 q31), .int .i64 (min l22 q32)] (y9.setCells P 0 [.int .i64 (min l20 q30), .int .i64 (min l21 q31), .int .i64 (min l22 q32)])) := Lib.hid (Own.store HP.out rfl)
      have HXn := Lib.hid (HX.out.but hbp nXP); have HAn := Lib.hid (HA.out.but hbp nAP); have HQn := Lib.hid (HQ.out.but hbp nQP)
      have HBn : Hid (Below w.heap.size w (y9.setCells P 0 [.int .i64 (min l20 q30), .int .i64 (min l21 q31), .int .i64 (min l22 q32)])) := Lib.hid (Below.setCells HB.out Pw _ _)
      clear P0 P1 P2 Pf0 Pf1 Pf2 Pl Q0 Q1 Q2 Ql HP HX HA HQ HB hbp
      generalize y9.setCells P 0 [.int .i64 (min l20 q30), .int .i64 (min l21 q31), .int .i64 (min l22 q32)] = y10 at *
      have oX := HXn.out
      have X0 := oX.at 0 _ rfl
      have Xf0 := oX.ok 0 (by simp)
      have X1 := oX.at 1 _ rfl
      have Xf1 := oX.ok 1 (by simp)
      have X2 := oX.at 2 _ rfl
      have Xf2 := oX.ok 2 (by simp)
      have Xl := oX.lt
      clear oX
      have oQ := HQn.out
      have Q0 := oQ.at 0 _ rfl
      have Q1 := oQ.at 1 _ rfl
      have Q2 := oQ.at 2 _ rfl
      have Ql := oQ.lt
      clear oQ
      go_upto_region 15 with fail
      rw [show (((y10.setCell ⟨X, 0, none⟩ (.int .i64 (max h20 q30))).setCell ⟨X, 1, none⟩ (.int .i64 (max h21 q31))).setCell ⟨X, 2, none⟩ (.int .i64 (max h22 q32))) = y10.setCells X 0 [.int .i64 (max h20 q30), .int .i64 (max h21 q31), .int .i64 (max h22 q32)] from rfl]
      have hbx : But X y10 (y10.setCells X 0 [.int .i64 (max h20 q30), .int .i64 (max h21 q31), .int .i64 (max h22 q32)]) := But.store
      have HX : Hid (Own X [.int .i64 (max h20 q30), .int .i64 (max h21 q31), .int .i64 (max h22 q32)] (y10.setCells X 0 [.int .i64 (max h20 q30), .int .i64 (max h21 q31), .int .i64 (max h22 q32)])) := Lib.hid (Own.store HXn.out rfl)
      have HP := Lib.hid (HPn.out.but hbx nPX); have HA := Lib.hid (HAn.out.but hbx nAX)
      have HB : Hid (Below w.heap.size w (y10.setCells X 0 [.int .i64 (max h20 q30), .int .i64 (max h21 q31), .int .i64 (max h22 q32)])) := Lib.hid (Below.setCells HBn.out Xw _ _)
      clear X0 X1 X2 Xf0 Xf1 Xf2 Xl Q0 Q1 Q2 Ql HPn HXn HAn HQn HBn hbx nPQ nQP nXQ nQX nAQ nQA
      generalize y10.setCells X 0 [.int .i64 (max h20 q30), .int .i64 (max h21 q31), .int .i64 (max h22 q32)] = y11 at *
      generalize min l20 q30 = l30 at *
      generalize min l21 q31 = l31 at *
      generalize min l22 q32 = l32 at *
      generalize max h20 q30 = h30 at *
      generalize max h21 q31 = h31 at *
      generalize max h22 q32 = h32 at *
      have BX := BX2
      clear BX2
      go_wp2_with (fail)
      rw [rounds_succ]
      go_wp2_with (fail)
      have BX3 : Hid (Box3 V R (nt * 3) ((k + 1) * 3) l30 l31 l32 h30 h31 h32) := Lib.hid (by rw [Nat.succ_mul]; exact BX.out)
      go_roundw
      case rel => (first | exact ⟨k + 1, l30, l31, l32, h30, h31, h32, HLT.out, by go_num, BX3, HP, HX, HA, HB⟩ | ((repeat apply Exists.intro); exact ⟨⟨k + 1, l30, l31, l32, h30, h31, h32, HLT.out, by go_num, BX3, HP, HX, HA, HB⟩, rfl⟩))
      case measure => (have := HLT.out; simp [intOf]; omega)
    · obtain rfl : k = nt := by omega
      clear hlt hk
      go_upto_region 17 with fail
      have oP := HP.out
      have P0 := oP.at 0 _ rfl
      have Pf0 := oP.ok 0 (by simp)
      have P1 := oP.at 1 _ rfl
      have Pf1 := oP.ok 1 (by simp)
      have P2 := oP.at 2 _ rfl
      have Pf2 := oP.ok 2 (by simp)
      have Pl := oP.lt
      clear oP
      have oX := HX.out
      have X0 := oX.at 0 _ rfl
      have Xf0 := oX.ok 0 (by simp)
      have X1 := oX.at 1 _ rfl
      have Xf1 := oX.ok 1 (by simp)
      have X2 := oX.at 2 _ rfl
      have Xf2 := oX.ok 2 (by simp)
      have Xl := oX.lt
      clear oX
      go_region_held3 (fun w' => w' = wr.drew) (first | rfl | assumption) (fail)
      clear P0 Pf0 P1 Pf1 P2 Pf2 Pl X0 Xf0 X1 Xf1 X2 Xf2 Xl
      have HP2 := Lib.hid (HP.out.drew); have HX2 := Lib.hid (HX.out.drew); have HB2 := Lib.hid (HB.out.drew)
      generalize wr.drew = w2 at *
      go_wp2_with (fail)
      have hL1 := run_loadVar_mid (P := Try.prog) _ P 0 46 [.int .i64 l0, .int .i64 l1, .int .i64 l2] _ HP2.out.cell Try.underlying46 rfl (by kernel_rfl)
      have hL2 := run_loadVar_mid (P := Try.prog) _ X 0 46 [.int .i64 h0, .int .i64 h1, .int .i64 h2] _ HX2.out.cell Try.underlying46 rfl (by kernel_rfl)
      exact bodyPost_ret (v := .tuple #[.agg ([.int .i64 l0, .int .i64 l1, .int .i64 l2] : List Value).toArray, .agg ([.int .i64 h0, .int .i64 h1, .int .i64 h2] : List Value).toArray, .int .i64 0]) (res_three Try.results19 rfl hL1 rfl hL2 rfl) rfl ⟨⟨l0, l1, l2, h0, h1, h2, rfl, BX.out⟩, HB2.out⟩
end Go.Proofs.Ytnopcgkhoennfaa

/- SJ -/
namespace Go.Proofs.Ytnopcgkhoennfaa
set_option linter.unusedVariables false
set_option maxRecDepth 2000
set_option linter.unusedSimpArgs false
open Go.RowKit
set_option maxHeartbeats 16000000 in
theorem Encode_any (M : Msh) (w : World) (hM : MeshAt M w) : Calls Try.prog 9 #[(.agg #[.slice M.qv M.nv M.cv, .slice M.qu M.nu M.cu, .slice M.qt M.nt M.ct])] w fun e w' => (∃ v, e = .returned (.tuple #[v, .int .i64 (chkM M)]) ∧ RowR w' v (encL (chkM M) (encN M.nv M.nu M.nt)) (encF M.nv M.nu M.nt M.V M.U M.R)) ∧ Below w.heap.size w w' := by
  have HM := Lib.hid hM
  have CK := Lib.hid (Check_any M)
  have GD := Lib.hid (@chk_good M.nv M.nu M.nt M.V M.U M.R)
  have HZ : Hid (chkM M = chkF M.nv M.nu M.nt M.V M.U M.R) := Lib.hid rfl
  obtain ⟨z, ez⟩ : ∃ z, chkM M = z := ⟨_, rfl⟩
  rw [HZ.out] at ez
  rw [ez] at GD HZ
  rw [HZ.out] at CK ⊢
  clear ez HZ hM
  by_cases hz : z = 0
  · subst hz
    have GO := GD.out rfl
    clear GD
    obtain ⟨qv, nv, cv, V, qu, nu, cu, U, qt, nt, ct, R⟩ := M
    dsimp only at *
    obtain ⟨nn, tt, un, gv, gu, gt⟩ := GO
    rw [show encL 0 (encN nv nu nt) = encN nv nu nt from rfl]
    obtain ⟨N2, e2⟩ : ∃ n, n = 2 + 2 * (nv * 3) := ⟨_, rfl⟩
    obtain ⟨N3, e3⟩ : ∃ n, n = N2 + 2 * (nu * 2) := ⟨_, rfl⟩
    obtain ⟨N4, e4⟩ : ∃ n, n = N3 + 1 * (nt * 3) := ⟨_, rfl⟩
    have C1 := Lib.hid (fun p w hp => Put_ok none p 0 0 2 2 1 2 (fun _ => 0) (cntF nv nt) rfl (by decide) (by decide) (fun k hk => by unfold cntF; split <;> omega) (fun k hk => fit_1 (by unfold cntF; split <;> omega)) (by decide) (by decide) (by decide) (by decide) (by decide) (by decide) w (.inl rfl) hp)
    have C2 := Lib.hid (fun q c hc1 hc2 p c2 h1 h2 w hq hp => Signed_ok q p 2 c (nv * 3) c2 N2 (enc1 nv nt) V e2.symm gv hc1 hc2 h1 h2 (by decide) (by omega) w hq hp)
    have C3 := Lib.hid (fun q c hc1 hc2 p c2 h1 h2 w hq hp => Put_ok q p N2 c (nu * 2) c2 2 N3 (enc2 nv nt V) U e3.symm (by decide) (by decide) gu (fun k hk => fit_2 (by have := gu k hk; omega)) hc1 hc2 h1 h2 (by omega) (by omega) w hq hp)
    have C4 := Lib.hid (fun q c hc1 hc2 p c2 h1 h2 w hq hp => Put_ok q p N3 c (nt * 3) c2 1 N4 (outF (enc2 nv nt V) N2 2 U) R e4.symm (by decide) (by decide) (fun k hk => by have := gt k hk; omega) (fun k hk => fit_1 (by have := gt k hk; omega)) hc1 hc2 h1 h2 (by omega) (by omega) w hq hp)
    have EQ : Hid (∀ w v, RowR w v N4 (outF (outF (enc2 nv nt V) N2 2 U) N3 1 R) → RowR w v (encN nv nu nt) (encF nv nu nt V U R)) := Lib.hid (fun w v h => by
      unfold encN encF enc3
      rw [← e2, ← e3, ← e4]
      exact h)
    rw [show outF (fun _ => 0) 0 1 (cntF nv nt) = enc1 nv nt from rfl] at C1
    rw [show outF (enc1 nv nt) 2 2 V = enc2 nv nt V from rfl] at C2
    have BU := Lib.hid (fun j (hj : j < nu * 2) => show IntKind.u64.wrap (U j) = U j from IntWalk.u64_in _ (by have := gu j hj; omega))
    have BR := Lib.hid (fun j (hj : j < nt * 3) => show IntKind.u64.wrap (R j) = R j from IntWalk.u64_in _ (by have := gt j hj; omega))
    have HV := Lib.hid (And.intro HM.out.v (And.intro HM.out.u HM.out.t))
    dsimp only at HV
    have LX : Hid ((nv ≤ 64 ∧ nu ≤ 64 ∧ nt ≤ 64) ∧ 1 ≤ nv ∧ 1 ≤ nt ∧ nu = nv) := Lib.hid (by omega)
    have r1 : IntKind.u64.wrap (nv : Int) = (nv : Int) := IntWalk.u64_in _ (by omega)
    have r2 : IntKind.u64.wrap (nt : Int) = (nt : Int) := IntWalk.u64_in _ (by omega)
    have CN0 : cntF nv nt 0 = (nv : Int) := rfl
    have CN1 : cntF nv nt 1 = (nt : Int) := rfl
    have CNT : Hid ((#[.int .i64 0, .int .i64 0] : Array Value).size = 2) := Lib.hid rfl
    have CL : Hid ([Value.int .u64 (nv : Int), .int .u64 (nt : Int)] = nums .u64 (cntF nv nt) 2) := Lib.hid rfl
    clear CN0 CN1 CNT
    generalize cntF nv nt = g0 at *
    generalize enc1 nv nt = E1 at *
    generalize enc2 nv nt V = E2 at *
    generalize outF E2 N2 2 U = E3 at *
    generalize outF E3 N3 1 R = E4 at *
    generalize encN nv nu nt = NN at *
    generalize encF nv nu nt V U R = EE at *
    have M2 := Lib.hid e2; have M3 := Lib.hid e3; have M4 := Lib.hid e4
    clear e2 e3 e4 nn tt un gv gu gt
    go_enter Try.func9, Try.ntmps9
    go_upto_region 1 with fail
    obtain ⟨W0, hW⟩ : ∃ W0, W0 = (w.alloc (.cells #[.slice qv nv cv, .slice qu nu cu, .slice qt nt ct] 26)) := ⟨_, rfl⟩
    have hB0 : Below w.heap.size w W0 := hW ▸ (Below.al (Below.refl _ _))
    have HA : Hid (Own w.heap.size [.slice qv nv cv, .slice qu nu cu, .slice qt nt ct] W0) := Lib.hid (hW ▸ (Own.newAt (by simp)))
    rw [← hW]
    clear hW
    obtain ⟨A, eA⟩ : ∃ X, X = w.heap.size := ⟨_, rfl⟩
    rw [← eA] at HA ⊢
    have Aw : w.heap.size ≤ A := by omega
    clear eA
    have HM0 := Lib.hid (HM.out.later hB0)
    have oA := HA.out
    have A0 := oA.at 0 _ rfl
    have A1 := oA.at 1 _ rfl
    have A2 := oA.at 2 _ rfl
    have Al := oA.lt
    clear oA
    go_wp2_with (fail)
    go_at_call 11
    refine (CK.out _ HM0.out).mono ?_
    rintro e w1 ⟨rfl, hb⟩
    have HA1 := Lib.hid (HA.out.later hb)
    have HB1 := Lib.hid (Below.go hB0 hb)
    clear hb hB0 HM HM0 HA CK A0 A1 A2 Al
    have AF := HA1.out
    obtain ⟨i0, hi, hz0, hz1, hz2⟩ := infoI_parts
    obtain ⟨u0, ui, uz0, uz1, uz2⟩ := infoQ_parts
    clear AF
    have HVv := Lib.hid (HV.out.1.later HB1.out); have HVu := Lib.hid (HV.out.2.1.later HB1.out); have HVt := Lib.hid (HV.out.2.2.later HB1.out)
    clear HV
    have oA := HA1.out
    have A0 := oA.at 0 _ rfl
    have Al := oA.lt
    clear oA
    go_wp2_with (fail)
    clear A0 Al
    go_loopw [5, 24] (fun v iv wr => ∃ (k t : Nat) (p3 : Option Addr) (c3 : Nat), k ≤ nv ∧ Hid (t = k * 3) ∧ v = .slice p3 t c3 ∧ iv = .int .i64 k ∧ Hid (wr.ownsRow w1.heap.size 3 1 (.slice p3 t c3) t (nums .i64 V t)) ∧ Hid (Below w1.heap.size w1 wr)) (fun _ iv _ => (nv - (intOf iv).toNat))
    case atStart => exact ⟨0, 0, none, 0, Nat.zero_le _, Lib.hid (Nat.zero_mul _).symm, rfl, rfl, Lib.hid (World.ownsRow_nil _ _ _ _), Lib.hid (Below.refl _ _)⟩
    case round =>
      obtain ⟨k, t, p3, c3, hk, HT, rfl, rfl, ROW, HB⟩ := hrel
      by_cases hlt : k < nv
      · obtain ⟨D, o, rfl, hD, c0, c1, c2⟩ := (HVv.out.later HB.out).at3 hlt
        have hki : (k : Int) < (nv : Int) := by omega
        have k0 : (0 : Int) ≤ (k : Int) := by omega
        have wk : IntKind.i64.wrap ((k : Int) + 1) = (k : Int) + 1 := IntWalk.i64_in _ (by have := LX.out; omega)
        have HLT := Lib.hid hlt
        obtain ⟨x0, ex0⟩ : ∃ x, V (k * 3) = x := ⟨_, rfl⟩
        rw [ex0] at c0
        obtain ⟨x1, ex1⟩ : ∃ x, V (k * 3 + 1) = x := ⟨_, rfl⟩
        rw [ex1] at c1
        obtain ⟨x2, ex2⟩ : ∃ x, V (k * 3 + 2) = x := ⟨_, rfl⟩
        rw [ex2] at c2
        have XS : Hid (nums .i64 V t ++ [.int .i64 x0, .int .i64 x1, .int .i64 x2] = nums .i64 V (t + 3)) := Lib.hid (by
          refine nums_append .i64 V (fun i => [x0, x1, x2].getD i 0) t 3 (fun i hi => ?_)
          rw [HT.out]
          match i, hi with
          | 0, _ => exact ex0
          | 1, _ => exact ex1
          | 2, _ => exact ex2)
        have HT2 : Hid (t + 3 = (k + 1) * 3) := Lib.hid (by rw [HT.out, Nat.succ_mul])
        have T200 : t ≤ 200 := by rw [HT.out]; have := LX.out; omega
        have N63 := Lib.hid (show t + 3 ≤ maxLen by unfold maxLen; omega)
        have NBY := Lib.hid (show (t + 3) * 8 ≤ 140737488355328 by omega)
        clear hk hlt T200 ex0 ex1 ex2
        go_upto_region 8 with fail
        clear hD c0 c1 c2
        obtain ⟨y0, hW⟩ : ∃ y0, y0 = (wr.alloc (.cells #[.int .i64 x0, .int .i64 x1, .int .i64 x2] 46)) := ⟨_, rfl⟩
        have hBx : Below wr.heap.size wr y0 := hW ▸ (Below.al (Below.refl _ _))
        have HQ : Hid (Own wr.heap.size ([.int .i64 x0, .int .i64 x1, .int .i64 x2]) y0) := Lib.hid (hW ▸ (show Own wr.heap.size ([.int .i64 x0, .int .i64 x1, .int .i64 x2]) (wr.alloc (.cells #[.int .i64 x0, .int .i64 x1, .int .i64 x2] 46)) from Own.newAt (by simp)))
        rw [← hW]
        clear hW
        obtain ⟨Q, eQ⟩ : ∃ X, X = wr.heap.size := ⟨_, rfl⟩
        rw [← eQ] at HQ ⊢
        have Qw : wr.heap.size ≤ Q := by omega
        clear eQ
        have ROWy := Lib.hid (row_later ROW.out hBx)
        have HBy := Lib.hid (Below.go HB.out hBx)
        clear hBx ROW HB Qw
        have oQ := HQ.out
        have Q0 := oQ.at 0 _ rfl
        have Q1 := oQ.at 1 _ rfl
        have Q2 := oQ.at 2 _ rfl
        have Ql := oQ.lt
        clear oQ
        have HS2 : Hid (w1.heap.size ≤ (y0.alloc (.cells #[.int .i64 x0, .int .i64 x1, .int .i64 x2] 3)).heap.size) := Lib.hid (Below.al HBy.out).size
        go_wp2_with (at_builtin; refine wpList_append_own _ rfl _ _ 58 rfl w1.heap.size 3 i0 (.int .i64 0) 1 8 Try.underlying58 hi hz0 hz1 hz2 rfl (by decide) _ t _ rfl (row_later ROWy.out (Below.al (Below.refl _ _))) ⟨y0.heap.size, 0, none⟩ 3 3 [.int .i64 x0, .int .i64 x1, .int .i64 x2] rfl rfl (Own.newAt (by rfl)).news (by intro v hv; simp at hv; rcases hv with rfl | rfl | rfl <;> rfl) N63.out NBY.out HS2.out ?_; intro v' w6 hrow hgr _; obtain ⟨p', c', rfl, _⟩ := row_form hrow; rw [XS.out] at hrow; have o4 := Lib.hid ((Below.al HBy.out).grown hgr (Below.al HBy.out).size fun q hq => row_ge ROWy.out q hq); have o6 := Lib.hid hrow; clear hrow hgr)
        go_roundw
        case rel => (first | exact ⟨k + 1, t + 3, _, _, HLT.out, HT2, rfl, by go_num, o6, o4⟩ | ((repeat apply Exists.intro); exact ⟨⟨k + 1, t + 3, _, _, HLT.out, HT2, rfl, by go_num, o6, o4⟩, rfl⟩))
        case measure => (have := HLT.out; simp [intOf]; omega)
      · obtain rfl : nv = k := by omega
        clear hlt hk
        obtain ⟨w2, rfl⟩ : ∃ x, x = wr := ⟨_, rfl⟩
        have B1 := HB.out
        have NM1 := Lib.hid (nm_row ROW.out).2; have cap := row_cap_ ROW.out
        have CP1 := Lib.hid cap
        have TT1 := HT
        obtain ⟨t1, et⟩ : ∃ x, x = t := ⟨_, rfl⟩
        subst et
        obtain ⟨p1, et⟩ : ∃ x, x = p3 := ⟨_, rfl⟩
        subst et
        obtain ⟨d1, et⟩ : ∃ x, x = c3 := ⟨_, rfl⟩
        subst et
        have HA1_ := Lib.hid (HA1.out.later B1)
        clear HA1
        have HA1 := HA1_
        clear HA1_
        have HVv_ := Lib.hid (HVv.out.later B1)
        clear HVv
        have HVv := HVv_
        clear HVv_
        have HVu_ := Lib.hid (HVu.out.later B1)
        clear HVu
        have HVu := HVu_
        clear HVu_
        have HVt_ := Lib.hid (HVt.out.later B1)
        clear HVt
        have HVt := HVt_
        clear HVt_
        have HB1_ := Lib.hid (Below.go HB1.out B1)
        clear HB1 HB ROW cap HT B1
        have HB1 := HB1_
        clear HB1_
        have oA := HA1.out
        have A1 := oA.at 1 _ rfl
        have Al := oA.lt
        clear oA
        go_wp2_with (fail)
        clear A1 Al
        go_loopw [8, 41] (fun v iv wr => ∃ (k t : Nat) (p3 : Option Addr) (c3 : Nat), k ≤ nu ∧ Hid (t = k * 2) ∧ v = .slice p3 t c3 ∧ iv = .int .i64 k ∧ Hid (wr.ownsRow w2.heap.size 60 1 (.slice p3 t c3) t (nums .u64 U t)) ∧ Hid (Below w2.heap.size w2 wr)) (fun _ iv _ => (nu - (intOf iv).toNat))
        case atStart => exact ⟨0, 0, none, 0, Nat.zero_le _, Lib.hid (Nat.zero_mul _).symm, rfl, rfl, Lib.hid (World.ownsRow_nil _ _ _ _), Lib.hid (Below.refl _ _)⟩
        case round =>
          obtain ⟨k, t, p3, c3, hk, HT, rfl, rfl, ROW, HB⟩ := hrel
          by_cases hlt : k < nu
          · obtain ⟨D, o, rfl, hD, c0, c1⟩ := (HVu.out.later HB.out).at2 hlt
            have hki : (k : Int) < (nu : Int) := by omega
            have k0 : (0 : Int) ≤ (k : Int) := by omega
            have wk : IntKind.i64.wrap ((k : Int) + 1) = (k : Int) + 1 := IntWalk.i64_in _ (by have := LX.out; omega)
            have HLT := Lib.hid hlt
            obtain ⟨x0, ex0⟩ : ∃ x, U (k * 2) = x := ⟨_, rfl⟩
            rw [ex0] at c0
            have wx0 : IntKind.u64.wrap x0 = x0 := by rw [← ex0]; exact BU.out _ (by omega)
            obtain ⟨x1, ex1⟩ : ∃ x, U (k * 2 + 1) = x := ⟨_, rfl⟩
            rw [ex1] at c1
            have wx1 : IntKind.u64.wrap x1 = x1 := by rw [← ex1]; exact BU.out _ (by omega)
            have XS : Hid (nums .u64 U t ++ [.int .u64 x0, .int .u64 x1] = nums .u64 U (t + 2)) := Lib.hid (by
              refine nums_append .u64 U (fun i => [x0, x1].getD i 0) t 2 (fun i hi => ?_)
              rw [HT.out]
              match i, hi with
              | 0, _ => exact ex0
              | 1, _ => exact ex1)
            have HT2 : Hid (t + 2 = (k + 1) * 2) := Lib.hid (by rw [HT.out, Nat.succ_mul])
            have T200 : t ≤ 200 := by rw [HT.out]; have := LX.out; omega
            have N63 := Lib.hid (show t + 2 ≤ maxLen by unfold maxLen; omega)
            have NBY := Lib.hid (show (t + 2) * 8 ≤ 140737488355328 by omega)
            clear hk hlt T200 ex0 ex1
            go_upto_region 14 with fail
            clear hD c0 c1
            obtain ⟨y0, hW⟩ : ∃ y0, y0 = (wr.alloc (.cells #[.int .i64 x0, .int .i64 x1] 48)) := ⟨_, rfl⟩
            have hBx : Below wr.heap.size wr y0 := hW ▸ (Below.al (Below.refl _ _))
            have HQ : Hid (Own wr.heap.size ([.int .i64 x0, .int .i64 x1]) y0) := Lib.hid (hW ▸ (show Own wr.heap.size ([.int .i64 x0, .int .i64 x1]) (wr.alloc (.cells #[.int .i64 x0, .int .i64 x1] 48)) from Own.newAt (by simp)))
            rw [← hW]
            clear hW
            obtain ⟨Q, eQ⟩ : ∃ X, X = wr.heap.size := ⟨_, rfl⟩
            rw [← eQ] at HQ ⊢
            have Qw : wr.heap.size ≤ Q := by omega
            clear eQ
            have ROWy := Lib.hid (row_later ROW.out hBx)
            have HBy := Lib.hid (Below.go HB.out hBx)
            clear hBx ROW HB Qw
            have oQ := HQ.out
            have Q0 := oQ.at 0 _ rfl
            have Q1 := oQ.at 1 _ rfl
            have Ql := oQ.lt
            clear oQ
            have HS2 : Hid (w2.heap.size ≤ (y0.alloc (.cells #[.int .u64 x0, .int .u64 x1] 60)).heap.size) := Lib.hid (Below.al HBy.out).size
            go_wp2_with (at_builtin; refine wpList_append_own _ rfl _ _ 59 rfl w2.heap.size 60 u0 (.int .u64 0) 1 8 Try.underlying59 ui uz0 uz1 uz2 rfl (by decide) _ t _ rfl (row_later ROWy.out (Below.al (Below.refl _ _))) ⟨y0.heap.size, 0, none⟩ 2 2 [.int .u64 x0, .int .u64 x1] rfl rfl (Own.newAt (by rfl)).news (by intro v hv; simp at hv; rcases hv with rfl | rfl <;> rfl) N63.out NBY.out HS2.out ?_; intro v' w6 hrow hgr _; obtain ⟨p', c', rfl, _⟩ := row_form hrow; rw [XS.out] at hrow; have o4 := Lib.hid ((Below.al HBy.out).grown hgr (Below.al HBy.out).size fun q hq => row_ge ROWy.out q hq); have o6 := Lib.hid hrow; clear hrow hgr)
            go_roundw
            case rel => (first | exact ⟨k + 1, t + 2, _, _, HLT.out, HT2, rfl, by go_num, o6, o4⟩ | ((repeat apply Exists.intro); exact ⟨⟨k + 1, t + 2, _, _, HLT.out, HT2, rfl, by go_num, o6, o4⟩, rfl⟩))
            case measure => (have := HLT.out; simp [intOf]; omega)
          · obtain rfl : nu = k := by omega
            clear hlt hk
            obtain ⟨w3, rfl⟩ : ∃ x, x = wr := ⟨_, rfl⟩
            have B2 := HB.out
            have NM2 := Lib.hid (nm_row ROW.out).2; have cap := row_cap_ ROW.out
            have CP2 := Lib.hid cap
            have TT2 := HT
            obtain ⟨t2, et⟩ : ∃ x, x = t := ⟨_, rfl⟩
            subst et
            obtain ⟨p2, et⟩ : ∃ x, x = p3 := ⟨_, rfl⟩
            subst et
            obtain ⟨d2, et⟩ : ∃ x, x = c3 := ⟨_, rfl⟩
            subst et
            have HA1_ := Lib.hid (HA1.out.later B2)
            clear HA1
            have HA1 := HA1_
            clear HA1_
            have HVv_ := Lib.hid (HVv.out.later B2)
            clear HVv
            have HVv := HVv_
            clear HVv_
            have HVu_ := Lib.hid (HVu.out.later B2)
            clear HVu
            have HVu := HVu_
            clear HVu_
            have HVt_ := Lib.hid (HVt.out.later B2)
            clear HVt
            have HVt := HVt_
            clear HVt_
            have NM1_ := Lib.hid (NM1.out.later B2)
            clear NM1
            have NM1 := NM1_
            clear NM1_
            have HB1_ := Lib.hid (Below.go HB1.out B2)
            clear HB1 HB ROW cap HT B2
            have HB1 := HB1_
            clear HB1_
            have oA := HA1.out
            have A2 := oA.at 2 _ rfl
            have Al := oA.lt
            clear oA
            go_wp2_with (fail)
            clear A2 Al
            go_loopw [9, 58] (fun v iv wr => ∃ (k t : Nat) (p3 : Option Addr) (c3 : Nat), k ≤ nt ∧ Hid (t = k * 3) ∧ v = .slice p3 t c3 ∧ iv = .int .i64 k ∧ Hid (wr.ownsRow w3.heap.size 60 1 (.slice p3 t c3) t (nums .u64 R t)) ∧ Hid (Below w3.heap.size w3 wr)) (fun _ iv _ => (nt - (intOf iv).toNat))
            case atStart => exact ⟨0, 0, none, 0, Nat.zero_le _, Lib.hid (Nat.zero_mul _).symm, rfl, rfl, Lib.hid (World.ownsRow_nil _ _ _ _), Lib.hid (Below.refl _ _)⟩
            case round =>
              obtain ⟨k, t, p3, c3, hk, HT, rfl, rfl, ROW, HB⟩ := hrel
              by_cases hlt : k < nt
              · obtain ⟨D, o, rfl, hD, c0, c1, c2⟩ := (HVt.out.later HB.out).at3 hlt
                have hki : (k : Int) < (nt : Int) := by omega
                have k0 : (0 : Int) ≤ (k : Int) := by omega
                have wk : IntKind.i64.wrap ((k : Int) + 1) = (k : Int) + 1 := IntWalk.i64_in _ (by have := LX.out; omega)
                have HLT := Lib.hid hlt
                obtain ⟨x0, ex0⟩ : ∃ x, R (k * 3) = x := ⟨_, rfl⟩
                rw [ex0] at c0
                have wx0 : IntKind.u64.wrap x0 = x0 := by rw [← ex0]; exact BR.out _ (by omega)
                obtain ⟨x1, ex1⟩ : ∃ x, R (k * 3 + 1) = x := ⟨_, rfl⟩
                rw [ex1] at c1
                have wx1 : IntKind.u64.wrap x1 = x1 := by rw [← ex1]; exact BR.out _ (by omega)
                obtain ⟨x2, ex2⟩ : ∃ x, R (k * 3 + 2) = x := ⟨_, rfl⟩
                rw [ex2] at c2
                have wx2 : IntKind.u64.wrap x2 = x2 := by rw [← ex2]; exact BR.out _ (by omega)
                have XS : Hid (nums .u64 R t ++ [.int .u64 x0, .int .u64 x1, .int .u64 x2] = nums .u64 R (t + 3)) := Lib.hid (by
                  refine nums_append .u64 R (fun i => [x0, x1, x2].getD i 0) t 3 (fun i hi => ?_)
                  rw [HT.out]
                  match i, hi with
                  | 0, _ => exact ex0
                  | 1, _ => exact ex1
                  | 2, _ => exact ex2)
                have HT2 : Hid (t + 3 = (k + 1) * 3) := Lib.hid (by rw [HT.out, Nat.succ_mul])
                have T200 : t ≤ 200 := by rw [HT.out]; have := LX.out; omega
                have N63 := Lib.hid (show t + 3 ≤ maxLen by unfold maxLen; omega)
                have NBY := Lib.hid (show (t + 3) * 8 ≤ 140737488355328 by omega)
                clear hk hlt T200 ex0 ex1 ex2
                go_upto_region 19 with fail
                clear hD c0 c1 c2
                obtain ⟨y0, hW⟩ : ∃ y0, y0 = (wr.alloc (.cells #[.int .i64 x0, .int .i64 x1, .int .i64 x2] 52)) := ⟨_, rfl⟩
                have hBx : Below wr.heap.size wr y0 := hW ▸ (Below.al (Below.refl _ _))
                have HQ : Hid (Own wr.heap.size ([.int .i64 x0, .int .i64 x1, .int .i64 x2]) y0) := Lib.hid (hW ▸ (show Own wr.heap.size ([.int .i64 x0, .int .i64 x1, .int .i64 x2]) (wr.alloc (.cells #[.int .i64 x0, .int .i64 x1, .int .i64 x2] 52)) from Own.newAt (by simp)))
                rw [← hW]
                clear hW
                obtain ⟨Q, eQ⟩ : ∃ X, X = wr.heap.size := ⟨_, rfl⟩
                rw [← eQ] at HQ ⊢
                have Qw : wr.heap.size ≤ Q := by omega
                clear eQ
                have ROWy := Lib.hid (row_later ROW.out hBx)
                have HBy := Lib.hid (Below.go HB.out hBx)
                clear hBx ROW HB Qw
                have oQ := HQ.out
                have Q0 := oQ.at 0 _ rfl
                have Q1 := oQ.at 1 _ rfl
                have Q2 := oQ.at 2 _ rfl
                have Ql := oQ.lt
                clear oQ
                have HS2 : Hid (w3.heap.size ≤ (y0.alloc (.cells #[.int .u64 x0, .int .u64 x1, .int .u64 x2] 60)).heap.size) := Lib.hid (Below.al HBy.out).size
                go_wp2_with (at_builtin; refine wpList_append_own _ rfl _ _ 59 rfl w3.heap.size 60 u0 (.int .u64 0) 1 8 Try.underlying59 ui uz0 uz1 uz2 rfl (by decide) _ t _ rfl (row_later ROWy.out (Below.al (Below.refl _ _))) ⟨y0.heap.size, 0, none⟩ 3 3 [.int .u64 x0, .int .u64 x1, .int .u64 x2] rfl rfl (Own.newAt (by rfl)).news (by intro v hv; simp at hv; rcases hv with rfl | rfl | rfl <;> rfl) N63.out NBY.out HS2.out ?_; intro v' w6 hrow hgr _; obtain ⟨p', c', rfl, _⟩ := row_form hrow; rw [XS.out] at hrow; have o4 := Lib.hid ((Below.al HBy.out).grown hgr (Below.al HBy.out).size fun q hq => row_ge ROWy.out q hq); have o6 := Lib.hid hrow; clear hrow hgr)
                go_roundw
                case rel => (first | exact ⟨k + 1, t + 3, _, _, HLT.out, HT2, rfl, by go_num, o6, o4⟩ | ((repeat apply Exists.intro); exact ⟨⟨k + 1, t + 3, _, _, HLT.out, HT2, rfl, by go_num, o6, o4⟩, rfl⟩))
                case measure => (have := HLT.out; simp [intOf]; omega)
              · obtain rfl : nt = k := by omega
                clear hlt hk
                obtain ⟨w4, rfl⟩ : ∃ x, x = wr := ⟨_, rfl⟩
                have B3 := HB.out
                have NM3 := Lib.hid (nm_row ROW.out).2; have cap := row_cap_ ROW.out
                have CP3 := Lib.hid cap
                have TT3 := HT
                obtain ⟨t3, et⟩ : ∃ x, x = t := ⟨_, rfl⟩
                subst et
                obtain ⟨p3_, et⟩ : ∃ x, x = p3 := ⟨_, rfl⟩
                subst et
                obtain ⟨d3, et⟩ : ∃ x, x = c3 := ⟨_, rfl⟩
                subst et
                have HA1_ := Lib.hid (HA1.out.later B3)
                clear HA1
                have HA1 := HA1_
                clear HA1_
                have NM1_ := Lib.hid (NM1.out.later B3)
                clear NM1
                have NM1 := NM1_
                clear NM1_
                have NM2_ := Lib.hid (NM2.out.later B3)
                clear NM2
                have NM2 := NM2_
                clear NM2_
                have HB1_ := Lib.hid (Below.go HB1.out B3)
                clear HB1 HB ROW cap HT B3
                have HB1 := HB1_
                clear HB1_
                have oA := HA1.out
                have A0 := oA.at 0 _ rfl
                have A2 := oA.at 2 _ rfl
                have Al := oA.lt
                clear oA
                have C2_ := C2.out
                rw [← TT1.out] at C2_
                have C2t := Lib.hid C2_
                clear C2 C2_
                have C3_ := C3.out
                rw [← TT2.out] at C3_
                have C3t := Lib.hid C3_
                clear C3 C3_
                have C4_ := C4.out
                rw [← TT3.out] at C4_
                have C4t := Lib.hid C4_
                clear C4 C4_
                clear BU BR
                go_wp2_with (fail)
                go_at_call 20
                refine (C1.out _ _ (nm_new CL.out)).mono ?_
                rintro e w5 ⟨⟨v1, rfl, q1, a1, rfl, hn, hx, hby⟩, hb0⟩
                have hb := Below.go (Below.al (o := .cells #[.int .u64 (nv : Int), .int .u64 (nt : Int)] 60) (Below.refl w4.heap.size w4)) hb0
                have BY1 := Lib.hid hby
                have X1 := Lib.hid (And.intro hn hx)
                have NM1_ := Lib.hid (NM1.out.later hb)
                clear NM1
                have NM1 := NM1_
                clear NM1_
                have NM2_ := Lib.hid (NM2.out.later hb)
                clear NM2
                have NM2 := NM2_
                clear NM2_
                have NM3_ := Lib.hid (NM3.out.later hb)
                clear NM3
                have NM3 := NM3_
                clear NM3_
                have HB2 := Lib.hid (Below.go HB1.out hb)
                clear hn hx hby hb hb0 HB1 A0 A2 Al C1
                go_wp2_with (fail)
                go_at_call 21
                refine (C2t.out q1 a1 X1.out.1 X1.out.2 p1 d1 CP1.out.1 CP1.out.2 _ BY1.out NM1.out).mono ?_
                rintro e w6 ⟨⟨v2, rfl, q2, a2, rfl, hn, hx, hby⟩, hb⟩
                have BY2 := Lib.hid hby
                have X2 := Lib.hid (And.intro hn hx)
                have NM2_ := Lib.hid (NM2.out.later hb)
                clear NM2
                have NM2 := NM2_
                clear NM2_
                have NM3_ := Lib.hid (NM3.out.later hb)
                clear NM3
                have NM3 := NM3_
                clear NM3_
                have HB3 := Lib.hid (Below.go HB2.out hb)
                clear hn hx hby hb HB2 NM1 BY1 C2t
                go_wp2_with (fail)
                go_at_call 20
                refine (C3t.out q2 a2 X2.out.1 X2.out.2 p2 d2 CP2.out.1 CP2.out.2 _ BY2.out NM2.out).mono ?_
                rintro e w7 ⟨⟨v3, rfl, q3, a3, rfl, hn, hx, hby⟩, hb⟩
                have BY3 := Lib.hid hby
                have X3 := Lib.hid (And.intro hn hx)
                have NM3_ := Lib.hid (NM3.out.later hb)
                clear NM3
                have NM3 := NM3_
                clear NM3_
                have HB4 := Lib.hid (Below.go HB3.out hb)
                clear hn hx hby hb HB3 NM2 BY2 C3t
                go_wp2_with (fail)
                go_at_call 20
                refine (C4t.out q3 a3 X3.out.1 X3.out.2 p3_ d3 CP3.out.1 CP3.out.2 _ BY3.out NM3.out).mono ?_
                rintro e w8 ⟨⟨v4, rfl, hr⟩, hb⟩
                have RW := Lib.hid (EQ.out _ _ hr)
                have HB5 := Lib.hid (Below.go HB4.out hb)
                clear hr hb HB4 NM3 BY3 C4t
                go_wp2_with (fail)
                exact bodyPost_ret (v := .tuple #[v4, .int .i64 0]) (by simp [results, Try.results9, go_sem]) rfl ⟨⟨_, rfl, RW.out⟩, HB5.out⟩
  · have hd : (z != 0) = true := by simpa using hz
    rw [show encL z (encN M.nv M.nu M.nt) = 0 from if_neg hz]
    clear GD
    go_enter Try.func9, Try.ntmps9
    go_upto_region 1 with fail
    obtain ⟨W0, hW⟩ : ∃ W0, W0 = (w.alloc (.cells #[.slice M.qv M.nv M.cv, .slice M.qu M.nu M.cu, .slice M.qt M.nt M.ct] 26)) := ⟨_, rfl⟩
    have hB0 : Below w.heap.size w W0 := hW ▸ (Below.al (Below.refl _ _))
    have HA : Hid (Own w.heap.size [.slice M.qv M.nv M.cv, .slice M.qu M.nu M.cu, .slice M.qt M.nt M.ct] W0) := Lib.hid (hW ▸ (Own.newAt (by simp)))
    rw [← hW]
    clear hW
    obtain ⟨A, eA⟩ : ∃ X, X = w.heap.size := ⟨_, rfl⟩
    rw [← eA] at HA ⊢
    have Aw : w.heap.size ≤ A := by omega
    clear eA
    have HM0 := Lib.hid (HM.out.later hB0)
    have oA := HA.out
    have A0 := oA.at 0 _ rfl
    have A1 := oA.at 1 _ rfl
    have A2 := oA.at 2 _ rfl
    have Al := oA.lt
    clear oA
    go_wp2_with (fail)
    go_at_call 11
    refine (CK.out _ HM0.out).mono ?_
    rintro e w1 ⟨rfl, hb⟩
    have HB1 := Lib.hid (Below.go hB0 hb)
    clear hb hB0 HM HM0 HA CK A0 A1 A2 Al
    go_wp2_with (fail)
    exact bodyPost_ret (v := .tuple #[.slice none 0 0, .int .i64 z]) (by simp [results, Try.results9, go_sem]) rfl ⟨⟨_, rfl, none, 0, rfl, Nat.le_refl _, by decide, .inl rfl⟩, HB1.out⟩
end Go.Proofs.Ytnopcgkhoennfaa

/- SN -/
namespace Go.Proofs.Ytnopcgkhoennfaa
set_option linter.unusedVariables false
set_option maxRecDepth 2000
set_option linter.unusedSimpArgs false
open Go.RowKit
/-- a Reader's error when t bytes have been asked for -/
def erN (N t : Nat) : Int := if t ≤ N then 0 else 4
/-- the number of the W bytes from t on, of N -/
def valN (F : Nat → Int) (N t W : Nat) : Int := if t + W ≤ N then leN (fun j => F (t + j)) W else 0
theorem in_valN {F : Nat → Int} {N : Nat} (hF : ∀ j, j < N → inB (F j)) (t W : Nat) : 0 ≤ valN F N t W ∧ valN F N t W < pw W := by
  unfold valN
  split
  · exact leN_lt _ _ fun j hj => hF _ (by omega)
  · exact ⟨by decide, pw_pos W⟩
theorem nxw_ok (W N at_ : Nat) (h1 : 1 ≤ W) (h8 : W ≤ 8) (h : at_ + W ≤ N) : nxE N at_ 0 (W : Int) 1 8 = 0 ∧ nxA at_ (W : Int) 0 = at_ + W := by
  constructor
  · unfold nxE
    rw [if_neg (by simp), if_neg (by omega), if_neg (by omega)]
  · simp [nxA]
theorem nxw_short (W N at_ : Nat) (h1 : 1 ≤ W) (h8 : W ≤ 8) (h : N - at_ < W) : nxE N at_ 0 (W : Int) 1 8 = 4 := by
  unfold nxE
  rw [if_neg (by simp), if_neg (by omega), if_pos (by omega)]
theorem nxw_err (N at_ : Nat) (x : Int) : nxE N at_ 4 x 1 8 = 4 := by
  unfold nxE
  rw [if_pos (by decide)]
/-- behind an error it plays no part where the Reader stands -/
theorem Rd.still {w : World} {K D N at_ : Nat} {er : Int} {F : Nat → Int} (h : Rd w K D F N at_ er) (he : er ≠ 0) (t : Nat) : Rd w K D F N t er := by
  obtain ⟨p, c, h1, h2, h3, h4⟩ := h.ex
  have l0 : ∀ s, leftN N s er = 0 := fun s => if_neg he
  refine ⟨p, c, ?_, ?_, ?_, h4⟩
  · rw [l0] at h1 ⊢
    exact h1
  · rw [l0]
    exact .inl rfl
  · rw [l0]
    exact Nat.zero_le _
theorem Num_next {K D N t : Nat} {F : Nat → Int} {w : World} (W T : Nat) (wd : Int) (ew : wd = (W : Int)) (eT : t + W = T) (h1 : 1 ≤ W) (h8 : W ≤ 8) (hF : ∀ j, j < N → inB (F j)) (h : Rd w K D F N t (erN N t)) :
    Calls Try.prog 49 #[.pointer (some ⟨K, 0, none⟩), .int .i64 wd] w fun e w' => e = .returned (.int .u64 (valN F N t W)) ∧ Rd w' K D F N T (erN N T) ∧ But K w w' := by
  subst ew
  subst eT
  have NA := Num_any (W : Int) hF h
  by_cases ht : t ≤ N
  · rw [show erN N t = 0 from if_pos ht] at NA
    by_cases hw : t + W ≤ N
    · rw [(nxw_ok W N t h1 h8 hw).1, (nxw_ok W N t h1 h8 hw).2] at NA
      rw [show erN N (t + W) = 0 from if_pos hw, show valN F N t W = leN (fun j => F (t + j)) W from if_pos hw]
      have e : numF F t (W : Int) 0 = leN (fun j => F (t + j)) W := by
        unfold numF
        rw [show nxL (W : Int) 0 = W by simp [nxL]]
      rw [e] at NA
      exact NA
    · rw [nxw_short W N t h1 h8 (by omega)] at NA
      rw [show erN N (t + W) = 4 from if_neg hw, show valN F N t W = 0 from if_neg hw]
      exact NA.mono fun e w' hh => ⟨hh.1, hh.2.1.still (by decide) _, hh.2.2⟩
  · have hw : ¬t + W ≤ N := by omega
    rw [show erN N t = 4 from if_neg ht, nxw_err] at NA
    rw [show erN N (t + W) = 4 from if_neg hw, show valN F N t W = 0 from if_neg hw]
    exact NA.mono fun e w' hh => ⟨hh.1, hh.2.1.still (by decide) _, hh.2.2⟩
/-- a store into a block that is newer than all that is spoken of -/
theorem But.news {K M o : Nat} {a b : World} {vs : List Value} (h : But K a b) (hM : a.heap.size ≤ M) (hK : K < a.heap.size) : But K a (b.setCells M o vs) :=
  ⟨Below.setCells h.below (by omega) vs o, fun i hi hn => (World.heap_setCells_other b M o vs (Nat.lt_of_lt_of_le hi h.below.size) (by omega)).trans (h.heap i hi hn)⟩
theorem res_two {P : Program} {fn : Func} {tmps : Array Value} {w : World} {r s T : Nat} {a : Addr} {v u : Value} (hf : fn.results = #[.cell r T, .tmp s]) (ha : tmps[r]?.getD undef = .pointer (some a)) (hl : (loadVar T a).run P w = .ok v w) (hs : tmps[s]?.getD undef = u) : (results fn tmps).run P w = .ok (.tuple #[v, u]) w := by
  subst hs
  have hx : (asAddr (Value.pointer (some a))).run P w = .ok a w := by simp [asAddr]
  simp [results, hf, ha, hx, hl]

/-- the signed number of the two bytes from t on, of N -/
def sgnN (F : Nat → Int) (N t : Nat) : Int := sgn (valN F N t 2) 2
theorem sgn_zero : sgn 0 2 = 0 := by decide
theorem sgn_none : sgn 0 0 = 0 := by decide
theorem in_sgnN {F : Nat → Int} {N : Nat} (hF : ∀ j, j < N → inB (F j)) (t : Nat) : -32768 ≤ sgnN F N t ∧ sgnN F N t ≤ 32767 := by
  have h := in_valN hF t 2
  have p := pw_vals.2.1
  unfold sgnN sgn
  split <;> omega
theorem Int_next {K D N t : Nat} {F : Nat → Int} {w : World} (T : Nat) (eT : t + 2 = T) (hF : ∀ j, j < N → inB (F j)) (h : Rd w K D F N t (erN N t)) :
    Calls Try.prog 50 #[.pointer (some ⟨K, 0, none⟩), .int .i64 2] w fun e w' => e = .returned (.int .i64 (sgnN F N t)) ∧ Rd w' K D F N T (erN N T) ∧ But K w w' := by
  subst eT
  have NA := Int_any (2 : Int) hF h
  have c2 : (2 : Int) = ((2 : Nat) : Int) := rfl
  by_cases ht : t ≤ N
  · rw [show erN N t = 0 from if_pos ht] at NA
    by_cases hw : t + 2 ≤ N
    · rw [c2, (nxw_ok 2 N t (by decide) (by decide) hw).1, (nxw_ok 2 N t (by decide) (by decide) hw).2] at NA
      rw [show erN N (t + 2) = 0 from if_pos hw, show sgnN F N t = sgn (leN (fun j => F (t + j)) 2) 2 by unfold sgnN valN; rw [if_pos hw]]
      exact NA
    · rw [c2, nxw_short 2 N t (by decide) (by decide) (by omega)] at NA
      rw [show erN N (t + 2) = 4 from if_neg hw, show sgnN F N t = 0 by unfold sgnN valN; rw [if_neg hw]; exact sgn_zero]
      exact NA.mono fun e w' hh => ⟨hh.1, hh.2.1.still (by decide) _, hh.2.2⟩
  · have hw : ¬t + 2 ≤ N := by omega
    rw [show erN N t = 4 from if_neg ht, nxw_err] at NA
    rw [show erN N (t + 2) = 4 from if_neg hw, show sgnN F N t = 0 by unfold sgnN valN; rw [if_neg hw]; exact sgn_zero]
    exact NA.mono fun e w' hh => ⟨hh.1, hh.2.1.still (by decide) _, hh.2.2⟩
/-- the document's Reader when t bytes have been asked for -/
def RRn (w : World) (S D : Nat) (F : Nat → Int) (N t : Nat) : Prop := ∃ a, RRd w S D F N a (erN N t) ∧ (t ≤ N → a = t)
theorem RRn.lt {w : World} {S D N t : Nat} {F : Nat → Int} (h : RRn w S D F N t) : S < w.heap.size := by obtain ⟨a, h1, _⟩ := h; exact h1.lt
theorem RRn.later {w w' : World} {S D N t : Nat} {F : Nat → Int} (h : RRn w S D F N t) (hb : Below w.heap.size w w') : RRn w' S D F N t := by
  obtain ⟨a, h1, h2⟩ := h
  exact ⟨a, h1.later hb, h2⟩
theorem RRn.far {w w' : World} {S D N t K : Nat} {F : Nat → Int} (h : RRn w S D F N t) (hb : But K w w') (hS : S ≠ K) (hD : D ≠ K) : RRn w' S D F N t := by
  obtain ⟨a, h1, h2⟩ := h
  exact ⟨a, h1.far hb hS hD, h2⟩
theorem RNum_nx {S D N t : Nat} {F : Nat → Int} {w : World} (W T : Nat) (wd : Int) (ew : wd = (W : Int)) (eT : t + W = T) (h1 : 1 ≤ W) (h8 : W ≤ 8) (hF : ∀ j, j < N → inB (F j)) (h : RRn w S D F N t) :
    Calls Try.prog 28 #[.pointer (some ⟨S, 0, none⟩), .int .i64 wd] w fun e w' => e = .returned (.int .u64 (valN F N t W)) ∧ RRn w' S D F N T ∧ But S w w' := by
  subst ew
  subst eT
  obtain ⟨a, hr, ha⟩ := h
  have NA := RNum_any (W : Int) (by omega) hF hr
  by_cases ht : t ≤ N
  · obtain rfl := ha ht
    rw [show erN N a = 0 from if_pos ht] at NA
    by_cases hw : a + W ≤ N
    · rw [(nxw_ok W N a h1 h8 hw).1, (nxw_ok W N a h1 h8 hw).2] at NA
      rw [show valN F N a W = leN (fun j => F (a + j)) W from if_pos hw]
      have e : numF F a (W : Int) 0 = leN (fun j => F (a + j)) W := by
        unfold numF
        rw [show nxL (W : Int) 0 = W by simp [nxL]]
      rw [e] at NA
      exact NA.mono fun e w' hh => ⟨hh.1, ⟨a + W, by rw [show erN N (a + W) = 0 from if_pos hw]; exact hh.2.1, fun _ => rfl⟩, hh.2.2⟩
    · rw [nxw_short W N a h1 h8 (by omega)] at NA
      rw [show valN F N a W = 0 from if_neg hw]
      exact NA.mono fun e w' hh => ⟨hh.1, ⟨_, by rw [show erN N (a + W) = 4 from if_neg hw]; exact hh.2.1, fun h => absurd h hw⟩, hh.2.2⟩
  · have hw : ¬t + W ≤ N := by omega
    rw [show erN N t = 4 from if_neg ht, nxw_err] at NA
    rw [show valN F N t W = 0 from if_neg hw]
    exact NA.mono fun e w' hh => ⟨hh.1, ⟨_, by rw [show erN N (t + W) = 4 from if_neg hw]; exact hh.2.1, fun h => absurd h hw⟩, hh.2.2⟩
theorem RInt_nx {S D N t : Nat} {F : Nat → Int} {w : World} (T : Nat) (eT : t + 2 = T) (hF : ∀ j, j < N → inB (F j)) (h : RRn w S D F N t) :
    Calls Try.prog 54 #[.pointer (some ⟨S, 0, none⟩), .int .i64 2] w fun e w' => e = .returned (.int .i64 (sgnN F N t)) ∧ RRn w' S D F N T ∧ But S w w' := by
  subst eT
  obtain ⟨a, hr, ha⟩ := h
  have NA := RInt_any (2 : Int) (by decide) hF hr
  have c2 : (2 : Int) = ((2 : Nat) : Int) := rfl
  by_cases ht : t ≤ N
  · obtain rfl := ha ht
    rw [show erN N a = 0 from if_pos ht] at NA
    by_cases hw : a + 2 ≤ N
    · rw [c2, (nxw_ok 2 N a (by decide) (by decide) hw).1, (nxw_ok 2 N a (by decide) (by decide) hw).2] at NA
      rw [show sgnN F N a = sgn (leN (fun j => F (a + j)) 2) 2 by unfold sgnN valN; rw [if_pos hw]]
      exact NA.mono fun e w' hh => ⟨hh.1, ⟨a + 2, by rw [show erN N (a + 2) = 0 from if_pos hw]; exact hh.2.1, fun _ => rfl⟩, hh.2.2⟩
    · rw [c2, nxw_short 2 N a (by decide) (by decide) (by omega)] at NA
      rw [show sgnN F N a = 0 by unfold sgnN valN; rw [if_neg hw]; exact sgn_zero]
      exact NA.mono fun e w' hh => ⟨hh.1, ⟨_, by rw [show erN N (a + 2) = 4 from if_neg hw]; exact hh.2.1, fun h => absurd h hw⟩, hh.2.2⟩
  · have hw : ¬t + 2 ≤ N := by omega
    rw [show erN N t = 4 from if_neg ht, nxw_err] at NA
    rw [show sgnN F N t = 0 by unfold sgnN valN; rw [if_neg hw]; exact sgn_zero]
    exact NA.mono fun e w' hh => ⟨hh.1, ⟨_, by rw [show erN N (t + 2) = 4 from if_neg hw]; exact hh.2.1, fun h => absurd h hw⟩, hh.2.2⟩
/-- the first c of G, and 0 -/
def uptoG (G : Nat → Int) (c j : Nat) : Int := if j < c then G j else 0
theorem over_uptoG (G : Nat → Int) (m c l : Nat) (vs : List Value) (hl : vs.length = l) (hv : ∀ i, i < l → vs[i]? = some (.int .i64 (G (c + i)))) (h : c + l ≤ m) : over (nums .i64 (uptoG G c) m) c vs = nums .i64 (uptoG G (c + l)) m := by
  apply List.ext_getElem?
  intro j
  unfold over
  by_cases hj : j < m
  · rw [nums_at _ _ hj]
    by_cases h1 : j < c
    · rw [List.append_assoc, List.getElem?_append_left (by rw [List.length_take, nums_length]; omega), List.getElem?_take_of_lt h1, nums_at _ _ hj]
      unfold uptoG
      rw [if_pos h1, if_pos (by omega)]
    · by_cases h2 : j < c + l
      · rw [List.getElem?_append_left (by rw [List.length_append, List.length_take, nums_length, hl]; omega), List.getElem?_append_right (by rw [List.length_take, nums_length]; omega), List.length_take, nums_length, Nat.min_eq_left (by omega), hv (j - c) (by omega)]
        unfold uptoG
        rw [if_pos h2, show c + (j - c) = j by omega]
      · rw [List.getElem?_append_right (by rw [List.length_append, List.length_take, nums_length, hl]; omega), List.length_append, List.length_take, nums_length, hl, Nat.min_eq_left (by omega), List.getElem?_drop, show c + l + (j - (c + l)) = j by omega, nums_at _ _ hj]
        unfold uptoG
        rw [if_neg h1, if_neg h2]
  · rw [nums_out _ _ (by omega)]
    apply List.getElem?_eq_none
    rw [List.length_append, List.length_append, List.length_take, nums_length, hl, List.length_drop, nums_length]
    omega
theorem uptoG_zero (G : Nat → Int) (m : Nat) : nums .i64 (uptoG G 0) m = nums .i64 (fun _ => 0) m := nums_congr .i64 fun j hj => if_neg (Nat.not_lt_zero j)
theorem uptoG_all (G : Nat → Int) (m : Nat) : nums .i64 (uptoG G m) m = nums .i64 G m := nums_congr .i64 fun j hj => if_pos hj
theorem made_zero {z : Array Value} (s n : Nat) (hs : z.size = s) (h0 : 0 < s) (hz : ∀ k, k < s → z[k]? = some (.int .i64 0)) : madeCells z n = (nums .i64 (fun _ => 0) n).toArray := by
  apply Array.ext'
  apply List.ext_getElem?
  intro j
  by_cases hj : j < n
  · rw [show (nums IntKind.i64 (fun _ => 0) n).toArray.toList = nums .i64 (fun _ => 0) n from rfl, nums_at _ _ hj]
    have hm : j % z.size < s := by rw [hs]; exact Nat.mod_lt _ h0
    have := hz _ hm
    simp [madeCells, hj]
    rw [Array.getElem!_eq_getD, Array.getD_eq_getD_getElem?, this]
    rfl
  · rw [show (nums IntKind.i64 (fun _ => 0) n).toArray.toList = nums .i64 (fun _ => 0) n from rfl, nums_out _ _ (by omega)]
    apply List.getElem?_eq_none
    simp [madeCells]
    omega
theorem mk_any (t e : TypeId) (s bytes : Nat) (z : Value) (ht : Try.prog.underlying t = some (.slice e)) (hinfo : (Try.prog.info? e).map (fun i => (i.zero, i.size, i.bytes)) = some (some z, s, bytes)) (hs : z.cells.size = s) (h0 : 0 < s) (hb : bytes ≤ 100) (hz : ∀ k, k < s → z.cells[k]? = some (.int .i64 0)) (kl : IntKind) (n : Nat) (hn : n ≤ 256) (w : World) :
    (Instr.makeSlice t (.int kl (n : Int)) (.int kl (n : Int))).run Try.prog w = .ok (.slice (some ⟨w.heap.size, 0, none⟩) n n) (w.alloc (.cells (nums .i64 (fun _ => 0) (n * s)).toArray e)) := by
  obtain ⟨i, hi, hzz⟩ := Option.map_eq_some_iff.1 hinfo
  simp only [Prod.mk.injEq] at hzz
  obtain ⟨hz0, hsz, hby⟩ := hzz
  have hbn : (i.bytes : Int) * (n : Int) ≤ 281474976710656 := by
    have : i.bytes * n ≤ 100 * 256 := Nat.mul_le_mul (by omega) hn
    have h2 : ((i.bytes * n : Nat) : Int) ≤ 281474976710656 := by omega
    rwa [Int.natCast_mul] at h2
  have hr := run_make (P := Try.prog) w t e i z ht hi hz0 kl kl n n (by omega) (Int.le_refl _) hbn (by omega)
  simp only [Int.toNat_natCast, hsz] at hr
  rw [hr, made_zero s (n * s) hs h0 hz]
theorem mkP (kl : IntKind) (n : Nat) (hn : n ≤ 256) (w : World) : (Instr.makeSlice 22 (.int kl (n : Int)) (.int kl (n : Int))).run Try.prog w = .ok (.slice (some ⟨w.heap.size, 0, none⟩) n n) (w.alloc (.cells (nums .i64 (fun _ => 0) (n * 3)).toArray 46)) :=
  mk_any _ _ 3 24 (.agg #[.int .i64 0, .int .i64 0, .int .i64 0]) Try.underlying22 (by kernel_rfl) rfl (by decide) (by decide) (fun k hk => match k, hk with | 0, _ => rfl | 1, _ => rfl | 2, _ => rfl) kl n hn w
theorem mkU (kl : IntKind) (n : Nat) (hn : n ≤ 256) (w : World) : (Instr.makeSlice 23 (.int kl (n : Int)) (.int kl (n : Int))).run Try.prog w = .ok (.slice (some ⟨w.heap.size, 0, none⟩) n n) (w.alloc (.cells (nums .i64 (fun _ => 0) (n * 2)).toArray 48)) :=
  mk_any _ _ 2 16 (.agg #[.int .i64 0, .int .i64 0]) Try.underlying23 (by kernel_rfl) rfl (by decide) (by decide) (fun k hk => match k, hk with | 0, _ => rfl | 1, _ => rfl) kl n hn w
theorem mkT (kl : IntKind) (n : Nat) (hn : n ≤ 256) (w : World) : (Instr.makeSlice 24 (.int kl (n : Int)) (.int kl (n : Int))).run Try.prog w = .ok (.slice (some ⟨w.heap.size, 0, none⟩) n n) (w.alloc (.cells (nums .i64 (fun _ => 0) (n * 3)).toArray 52)) :=
  mk_any _ _ 3 24 (.agg #[.int .i64 0, .int .i64 0, .int .i64 0]) Try.underlying24 (by kernel_rfl) rfl (by decide) (by decide) (fun k hk => match k, hk with | 0, _ => rfl | 1, _ => rfl | 2, _ => rfl) kl n hn w
end Go.Proofs.Ytnopcgkhoennfaa

/- SO -/
namespace Go.Proofs.Ytnopcgkhoennfaa
set_option linter.unusedVariables false
set_option maxRecDepth 2000
set_option linter.unusedSimpArgs false
open Go.RowKit
attribute [local go_sem] setCell_self
def dcN (F : Nat → Int) (N t : Nat) : Nat := (valN F N t 1).toNat
def decV (F : Nat → Int) (N j : Nat) : Int := sgnN F N (2 + 2 * j)
def decU (F : Nat → Int) (N j : Nat) : Int := valN F N (2 + dcN F N 0 * 6 + 2 * j) 2
def decR (F : Nat → Int) (N j : Nat) : Int := valN F N (2 + dcN F N 0 * 10 + j) 1
def decT (F : Nat → Int) (N : Nat) : Nat := 2 + dcN F N 0 * 10 + dcN F N 1 * 3
theorem dcN_val {F : Nat → Int} {N : Nat} (hF : ∀ j, j < N → inB (F j)) (t : Nat) : valN F N t 1 = (dcN F N t : Int) ∧ dcN F N t ≤ 255 := by
  have h := in_valN hF t 1
  have p := pw_vals.1
  unfold dcN
  omega
set_option maxHeartbeats 16000000 in
theorem Mesh_any (K D N : Nat) (F : Nat → Int) (hF : ∀ j, j < N → inB (F j)) (w : World) (h : Rd w K D F N 0 0) (hD : D < w.heap.size) :
    Calls Try.prog 26 #[.agg #[.pointer (some ⟨K, 0, none⟩)]] w fun e w' => (∃ V U T : Nat, e = .returned (.agg #[.slice (some ⟨V, 0, none⟩) (dcN F N 0) (dcN F N 0), .slice (some ⟨U, 0, none⟩) (dcN F N 0) (dcN F N 0), .slice (some ⟨T, 0, none⟩) (dcN F N 1) (dcN F N 1)]) ∧ (w.heap.size ≤ V ∧ w.heap.size ≤ U ∧ w.heap.size ≤ T) ∧ Has V 0 (nums .i64 (decV F N) (dcN F N 0 * 3)) w' ∧ Has U 0 (nums .i64 (decU F N) (dcN F N 0 * 2)) w' ∧ Has T 0 (nums .i64 (decR F N) (dcN F N 1 * 3)) w') ∧ Rd w' K D F N (decT F N) (erN N (decT F N)) ∧ But K w w' := by
  have HR0 := Lib.hid (show Rd w K D F N 0 (erN N 0) by rw [show erN N 0 = 0 from if_pos (Nat.zero_le _)]; exact h)
  have Kl := h.lt
  have c0 := dcN_val hF 0; have c1 := dcN_val hF 1
  have S0 := Lib.hid (fun w h => Num_next (K := K) (D := D) (N := N) (t := 0) (F := F) (w := w) 1 1 1 rfl rfl (by decide) (by decide) hF h)
  have S1 := Lib.hid (fun w h => Num_next (K := K) (D := D) (N := N) (t := 1) (F := F) (w := w) 1 2 1 rfl rfl (by decide) (by decide) hF h)
  rw [c0.1] at S0
  rw [c1.1] at S1
  have SV := Lib.hid (fun t w h => Int_next (K := K) (D := D) (N := N) (t := t) (F := F) (w := w) (t + 2) rfl hF h)
  have SU := Lib.hid (fun t w h => Num_next (K := K) (D := D) (N := N) (t := t) (F := F) (w := w) 2 (t + 2) 2 rfl rfl (by decide) (by decide) hF h)
  have ST := Lib.hid (fun t w h => Num_next (K := K) (D := D) (N := N) (t := t) (F := F) (w := w) 1 (t + 1) 1 rfl rfl (by decide) (by decide) hF h)
  have BV := Lib.hid (in_sgnN hF)
  have BU := Lib.hid (fun t => show IntKind.i64.wrap (valN F N t 2) = valN F N t 2 from IntWalk.i64_in _ (by have := in_valN hF t 2; have := pw_vals.2.1; omega))
  have BT := Lib.hid (fun t => show IntKind.i64.wrap (valN F N t 1) = valN F N t 1 from IntWalk.i64_in _ (by have := in_valN hF t 1; have := pw_vals.1; omega))
  have EV : Hid (∀ j, decV F N j = sgnN F N (2 + 2 * j)) := Lib.hid fun _ => rfl
  have EU : Hid (∀ j, decU F N j = valN F N (2 + dcN F N 0 * 6 + 2 * j) 2) := Lib.hid fun _ => rfl
  have ER : Hid (∀ j, decR F N j = valN F N (2 + dcN F N 0 * 10 + j) 1) := Lib.hid fun _ => rfl
  have ET : Hid (decT F N = 2 + dcN F N 0 * 10 + dcN F N 1 * 3) := Lib.hid rfl
  have n255 := c0.2; have m255 := c1.2
  clear c0 c1 h
  generalize dcN F N 0 = n at *
  generalize dcN F N 1 = m at *
  generalize decV F N = GV at *
  generalize decU F N = GU at *
  generalize decR F N = GR at *
  generalize decT F N = TT at *
  have mk1 := mkP .u64 n (by omega); have mk2 := mkU .i64 n (by omega); have mk3 := mkT .u64 m (by omega)
  have NB := Lib.hid n255; have MB := Lib.hid m255
  have HDl := Lib.hid hD
  clear n255 m255
  go_enter Try.func26, Try.ntmps26
  go_upto_region 1 with fail
  obtain ⟨W0, hW⟩ : ∃ W0, W0 = ((w.alloc (.cells #[.pointer (some ⟨K, 0, none⟩)] 72)).alloc (.cells #[.slice none 0 0, .slice none 0 0, .slice none 0 0] 26)) := ⟨_, rfl⟩
  have hB0 : Below w.heap.size w W0 := hW ▸ (Below.al (Below.al (Below.refl _ _)))
  have HQ : Hid (Own w.heap.size ([.pointer (some ⟨K, 0, none⟩)]) W0) := Lib.hid (hW ▸ (show Own w.heap.size ([.pointer (some ⟨K, 0, none⟩)]) (w.alloc (.cells #[.pointer (some ⟨K, 0, none⟩)] 72)) from Own.newAt (by simp)).alloc)
  have HM : Hid (Own (w.heap.size + 1) ([.slice none 0 0, .slice none 0 0, .slice none 0 0]) W0) := Lib.hid (hW ▸ (show Own (w.heap.size + 1) ([.slice none 0 0, .slice none 0 0, .slice none 0 0]) ((w.alloc (.cells #[.pointer (some ⟨K, 0, none⟩)] 72)).alloc (.cells #[.slice none 0 0, .slice none 0 0, .slice none 0 0] 26)) from Own.newAt (by simp)))
  rw [← hW]
  clear hW
  obtain ⟨M, eM⟩ : ∃ X, X = (w.heap.size + 1) := ⟨_, rfl⟩
  rw [← eM] at HM ⊢
  have Mw : w.heap.size ≤ M := by omega
  obtain ⟨Q, eQ⟩ : ∃ X, X = w.heap.size := ⟨_, rfl⟩
  rw [← eQ] at HQ ⊢
  have Qw : w.heap.size ≤ Q := by omega
  have nQM : Q ≠ M := by omega
  have nMQ : M ≠ Q := by omega
  clear eQ eM
  have nQK : Q ≠ K := by omega
  have nMK : M ≠ K := by omega
  have nKM : K ≠ M := by omega
  have nDM : D ≠ M := by omega
  have HR := Lib.hid (HR0.out.later hB0)
  have HB := Lib.hid (But.of hB0 Kl)
  have MW := Lib.hid Mw; have KL := Lib.hid Kl
  clear HR0 hB0 hD Qw Mw Kl
  have oQ := HQ.out
  have Q0 := oQ.at 0 _ rfl
  have Ql := oQ.lt
  clear oQ
  go_wp2_with (fail)
  go_at_call 49
  refine (S0.out _ HR.out).mono ?_
  rintro e y1 ⟨rfl, h1, h2⟩
  have HQ_ := Lib.hid (HQ.out.but h2 nQK)
  have HM_ := Lib.hid (HM.out.but h2 nMK)
  have HB_ := Lib.hid (HB.out.trans h2)
  have HR_ := Lib.hid h1
  clear h1 h2 HR HB HQ HM
  have HQ := HQ_
  clear HQ_
  have HM := HM_
  clear HM_
  have HR := HR_
  clear HR_
  have HB := HB_
  clear HB_
  clear Q0 Ql
  have oM := HM.out
  have M0 := oM.at 0 _ rfl
  have Mf0 := oM.ok 0 (by simp)
  have Ml := oM.lt
  clear oM
  go_upto_region 2 with fail
  clear M0 Mf0 Ml
  obtain ⟨V, eV⟩ : ∃ X, X = y1.heap.size := ⟨_, rfl⟩
  rw [← eV]
  have eV2 : V = (y1.setCells M 0 [.slice (some ⟨V, 0, none⟩) n n]).heap.size := by rw [size_setCells]; exact eV
  clear eV
  rw [show (y1.setCell ⟨M, 0, none⟩ (.slice (some ⟨V, 0, none⟩) n n)) = y1.setCells M 0 [.slice (some ⟨V, 0, none⟩) n n] from rfl]
  have hbm : But M y1 (y1.setCells M 0 [.slice (some ⟨V, 0, none⟩) n n]) := But.store
  have HM_ : Hid (Own M ([.slice (some ⟨V, 0, none⟩) n n, .slice none 0 0, .slice none 0 0]) (y1.setCells M 0 [.slice (some ⟨V, 0, none⟩) n n])) := Lib.hid (show Own M (over _ 0 [.slice (some ⟨V, 0, none⟩) n n]) _ from Own.part HM.out (by simp))
  have HQ_ := Lib.hid (HQ.out.but hbm nQM)
  have HR_ := Lib.hid (HR.out.far hbm nKM nDM)
  have HB_ := Lib.hid (HB.out.news (o := 0) (vs := [.slice (some ⟨V, 0, none⟩) n n]) MW.out KL.out)
  clear hbm HR HB HQ HM
  generalize y1.setCells M 0 [.slice (some ⟨V, 0, none⟩) n n] = y2 at *
  have HQ := HQ_
  clear HQ_
  have HM := HM_
  clear HM_
  have HR := HR_
  clear HR_
  have HB := HB_
  clear HB_
  have hal := Below.al (o := .cells (nums .i64 (fun _ => 0) (n * 3)).toArray 46) (Below.refl y2.heap.size y2)
  have HV__ : Hid (Own V (nums .i64 (fun _ => 0) (n * 3)) (y2.alloc (.cells (nums .i64 (fun _ => 0) (n * 3)).toArray 46))) := Lib.hid (Own.newAt eV2)
  have nQV : Q ≠ V := by have := HQ.out.lt; omega
  have nVQ : V ≠ Q := Ne.symm nQV
  have nMV : M ≠ V := by have := HM.out.lt; omega
  have nVM : V ≠ M := Ne.symm nMV
  have nKV : K ≠ V := by have := HR.out.lt; omega
  have nVK : V ≠ K := Ne.symm nKV
  have nDV : D ≠ V := by have := HDl.out; have := HB.out.below.size; omega
  have VW := Lib.hid (show w.heap.size ≤ V by have := HB.out.below.size; omega)
  have HQ_ := Lib.hid (HQ.out.later hal)
  have HM_ := Lib.hid (HM.out.later hal)
  have HR_ := Lib.hid (HR.out.later hal)
  have HB_ := Lib.hid (HB.out.trans (But.of hal HR.out.lt))
  clear hal eV2 HR HB HQ HM
  generalize (y2.alloc (.cells (nums .i64 (fun _ => 0) (n * 3)).toArray 46)) = y3 at *
  have HQ := HQ_
  clear HQ_
  have HM := HM_
  clear HM_
  have HR := HR_
  clear HR_
  have HB := HB_
  clear HB_
  have HV := HV__
  clear HV__
  have oM := HM.out
  have M0 := oM.at 0 _ rfl
  have Mf0 := oM.ok 0 (by simp)
  have M1 := oM.at 1 _ rfl
  have Mf1 := oM.ok 1 (by simp)
  have Ml := oM.lt
  clear oM
  go_upto_region 3 with fail
  clear M0 Mf0 M1 Mf1 Ml
  obtain ⟨U, eU⟩ : ∃ X, X = y3.heap.size := ⟨_, rfl⟩
  rw [← eU]
  have eU2 : U = (y3.setCells M 1 [.slice (some ⟨U, 0, none⟩) n n]).heap.size := by rw [size_setCells]; exact eU
  clear eU
  rw [show (y3.setCell ⟨M, 1, none⟩ (.slice (some ⟨U, 0, none⟩) n n)) = y3.setCells M 1 [.slice (some ⟨U, 0, none⟩) n n] from rfl]
  have hbm : But M y3 (y3.setCells M 1 [.slice (some ⟨U, 0, none⟩) n n]) := But.store
  have HM_ : Hid (Own M ([.slice (some ⟨V, 0, none⟩) n n, .slice (some ⟨U, 0, none⟩) n n, .slice none 0 0]) (y3.setCells M 1 [.slice (some ⟨U, 0, none⟩) n n])) := Lib.hid (show Own M (over _ 1 [.slice (some ⟨U, 0, none⟩) n n]) _ from Own.part HM.out (by simp))
  have HQ_ := Lib.hid (HQ.out.but hbm nQM)
  have HV_ := Lib.hid (HV.out.but hbm nVM)
  have HR_ := Lib.hid (HR.out.far hbm nKM nDM)
  have HB_ := Lib.hid (HB.out.news (o := 1) (vs := [.slice (some ⟨U, 0, none⟩) n n]) MW.out KL.out)
  clear hbm HR HB HQ HM HV
  generalize y3.setCells M 1 [.slice (some ⟨U, 0, none⟩) n n] = y4 at *
  have HQ := HQ_
  clear HQ_
  have HM := HM_
  clear HM_
  have HV := HV_
  clear HV_
  have HR := HR_
  clear HR_
  have HB := HB_
  clear HB_
  have hal := Below.al (o := .cells (nums .i64 (fun _ => 0) (n * 2)).toArray 48) (Below.refl y4.heap.size y4)
  have HU__ : Hid (Own U (nums .i64 (fun _ => 0) (n * 2)) (y4.alloc (.cells (nums .i64 (fun _ => 0) (n * 2)).toArray 48))) := Lib.hid (Own.newAt eU2)
  have nQU : Q ≠ U := by have := HQ.out.lt; omega
  have nUQ : U ≠ Q := Ne.symm nQU
  have nMU : M ≠ U := by have := HM.out.lt; omega
  have nUM : U ≠ M := Ne.symm nMU
  have nVU : V ≠ U := by have := HV.out.lt; omega
  have nUV : U ≠ V := Ne.symm nVU
  have nKU : K ≠ U := by have := HR.out.lt; omega
  have nUK : U ≠ K := Ne.symm nKU
  have nDU : D ≠ U := by have := HDl.out; have := HB.out.below.size; omega
  have UW := Lib.hid (show w.heap.size ≤ U by have := HB.out.below.size; omega)
  have HQ_ := Lib.hid (HQ.out.later hal)
  have HM_ := Lib.hid (HM.out.later hal)
  have HV_ := Lib.hid (HV.out.later hal)
  have HR_ := Lib.hid (HR.out.later hal)
  have HB_ := Lib.hid (HB.out.trans (But.of hal HR.out.lt))
  clear hal eU2 HR HB HQ HM HV
  generalize (y4.alloc (.cells (nums .i64 (fun _ => 0) (n * 2)).toArray 48)) = y5 at *
  have HQ := HQ_
  clear HQ_
  have HM := HM_
  clear HM_
  have HV := HV_
  clear HV_
  have HR := HR_
  clear HR_
  have HB := HB_
  clear HB_
  have HU := HU__
  clear HU__
  have oQ := HQ.out
  have Q0 := oQ.at 0 _ rfl
  have Ql := oQ.lt
  clear oQ
  go_wp2_with (fail)
  go_at_call 49
  refine (S1.out _ HR.out).mono ?_
  rintro e y6 ⟨rfl, h1, h2⟩
  have HQ_ := Lib.hid (HQ.out.but h2 nQK)
  have HM_ := Lib.hid (HM.out.but h2 nMK)
  have HV_ := Lib.hid (HV.out.but h2 nVK)
  have HU_ := Lib.hid (HU.out.but h2 nUK)
  have HB_ := Lib.hid (HB.out.trans h2)
  have HR_ := Lib.hid h1
  clear h1 h2 HR HB HQ HM HV HU
  have HQ := HQ_
  clear HQ_
  have HM := HM_
  clear HM_
  have HV := HV_
  clear HV_
  have HU := HU_
  clear HU_
  have HR := HR_
  clear HR_
  have HB := HB_
  clear HB_
  clear Q0 Ql
  have oM := HM.out
  have M2 := oM.at 2 _ rfl
  have Mf2 := oM.ok 2 (by simp)
  have Ml := oM.lt
  clear oM
  go_upto_region 4 with fail
  clear M2 Mf2 Ml
  obtain ⟨T, eT⟩ : ∃ X, X = y6.heap.size := ⟨_, rfl⟩
  rw [← eT]
  have eT2 : T = (y6.setCells M 2 [.slice (some ⟨T, 0, none⟩) m m]).heap.size := by rw [size_setCells]; exact eT
  clear eT
  rw [show (y6.setCell ⟨M, 2, none⟩ (.slice (some ⟨T, 0, none⟩) m m)) = y6.setCells M 2 [.slice (some ⟨T, 0, none⟩) m m] from rfl]
  have hbm : But M y6 (y6.setCells M 2 [.slice (some ⟨T, 0, none⟩) m m]) := But.store
  have HM_ : Hid (Own M ([.slice (some ⟨V, 0, none⟩) n n, .slice (some ⟨U, 0, none⟩) n n, .slice (some ⟨T, 0, none⟩) m m]) (y6.setCells M 2 [.slice (some ⟨T, 0, none⟩) m m])) := Lib.hid (show Own M (over _ 2 [.slice (some ⟨T, 0, none⟩) m m]) _ from Own.part HM.out (by simp))
  have HQ_ := Lib.hid (HQ.out.but hbm nQM)
  have HV_ := Lib.hid (HV.out.but hbm nVM)
  have HU_ := Lib.hid (HU.out.but hbm nUM)
  have HR_ := Lib.hid (HR.out.far hbm nKM nDM)
  have HB_ := Lib.hid (HB.out.news (o := 2) (vs := [.slice (some ⟨T, 0, none⟩) m m]) MW.out KL.out)
  clear hbm HR HB HQ HM HV HU
  generalize y6.setCells M 2 [.slice (some ⟨T, 0, none⟩) m m] = y7 at *
  have HQ := HQ_
  clear HQ_
  have HM := HM_
  clear HM_
  have HV := HV_
  clear HV_
  have HU := HU_
  clear HU_
  have HR := HR_
  clear HR_
  have HB := HB_
  clear HB_
  have hal := Below.al (o := .cells (nums .i64 (fun _ => 0) (m * 3)).toArray 52) (Below.refl y7.heap.size y7)
  have HT__ : Hid (Own T (nums .i64 (fun _ => 0) (m * 3)) (y7.alloc (.cells (nums .i64 (fun _ => 0) (m * 3)).toArray 52))) := Lib.hid (Own.newAt eT2)
  have nQT : Q ≠ T := by have := HQ.out.lt; omega
  have nTQ : T ≠ Q := Ne.symm nQT
  have nMT : M ≠ T := by have := HM.out.lt; omega
  have nTM : T ≠ M := Ne.symm nMT
  have nVT : V ≠ T := by have := HV.out.lt; omega
  have nTV : T ≠ V := Ne.symm nVT
  have nUT : U ≠ T := by have := HU.out.lt; omega
  have nTU : T ≠ U := Ne.symm nUT
  have nKT : K ≠ T := by have := HR.out.lt; omega
  have nTK : T ≠ K := Ne.symm nKT
  have nDT : D ≠ T := by have := HDl.out; have := HB.out.below.size; omega
  have TW := Lib.hid (show w.heap.size ≤ T by have := HB.out.below.size; omega)
  have HQ_ := Lib.hid (HQ.out.later hal)
  have HM_ := Lib.hid (HM.out.later hal)
  have HV_ := Lib.hid (HV.out.later hal)
  have HU_ := Lib.hid (HU.out.later hal)
  have HR_ := Lib.hid (HR.out.later hal)
  have HB_ := Lib.hid (HB.out.trans (But.of hal HR.out.lt))
  clear hal eT2 HR HB HQ HM HV HU
  generalize (y7.alloc (.cells (nums .i64 (fun _ => 0) (m * 3)).toArray 52)) = y8 at *
  have HQ := HQ_
  clear HQ_
  have HM := HM_
  clear HM_
  have HV := HV_
  clear HV_
  have HU := HU_
  clear HU_
  have HR := HR_
  clear HR_
  have HB := HB_
  clear HB_
  have HT := HT__
  clear HT__
  clear S0 S1 mk1 mk2 mk3
  have oM := HM.out
  have M0 := oM.at 0 _ rfl
  have Ml := oM.lt
  clear oM
  go_wp2_with (fail)
  clear M0 Ml
  have HV0 : Hid (Own V (nums .i64 (uptoG GV (0 * 3)) (n * 3)) y8) := Lib.hid (by rw [Nat.zero_mul, uptoG_zero]; exact HV.out)
  have HR0 : Hid (Rd y8 K D F N (2 + 0 * 6) (erN N (2 + 0 * 6))) := Lib.hid (by rw [show 2 + 0 * 6 = 2 by omega]; exact HR.out)
  clear HV HR
  go_loopw [3, 24] (fun _ iv wr => ∃ (k : Nat), k ≤ n ∧ iv = .int .i64 k ∧ Hid (Own Q [.pointer (some ⟨K, 0, none⟩)] wr) ∧ Hid (Own M [.slice (some ⟨V, 0, none⟩) n n, .slice (some ⟨U, 0, none⟩) n n, .slice (some ⟨T, 0, none⟩) m m] wr) ∧ Hid (Own V (nums .i64 (uptoG GV (k * 3)) (n * 3)) wr) ∧ Hid (Own U (nums .i64 (fun _ => 0) (n * 2)) wr) ∧ Hid (Own T (nums .i64 (fun _ => 0) (m * 3)) wr) ∧ Hid (Rd wr K D F N (2 + k * 6) (erN N (2 + k * 6))) ∧ Hid (But K w wr)) (fun _ iv _ => (n - (intOf iv).toNat))
  case atStart => exact ⟨0, Nat.zero_le _, rfl, HQ, HM, HV0, HU, HT, HR0, HB⟩
  case round =>
    clear HQ HM HR0 HB HV0 HU HT
    obtain ⟨k, hk, rfl, HQ, HM, HV, HU, HT, HR, HB⟩ := hrel
    by_cases hlt : k < n
    · have hki : (k : Int) < (n : Int) := by omega
      have k0 : (0 : Int) ≤ (k : Int) := by omega
      have wk : IntKind.i64.wrap ((k : Int) + 1) = (k : Int) + 1 := IntWalk.i64_in _ (by have := NB.out; omega)
      have HLT := Lib.hid hlt
      obtain ⟨t, et⟩ : ∃ t, 2 + k * 6 = t := ⟨_, rfl⟩
      rw [et] at HR
      have HTT := Lib.hid et
      obtain ⟨x0, ex0⟩ : ∃ x, sgnN F N (t) = x := ⟨_, rfl⟩
      have C0 := Lib.hid (SV.out (t))
      rw [ex0] at C0
      have g0 : GV (k * 3 + 0) = x0 := by rw [EV.out, ← ex0]; congr 1 <;> (have := HTT.out; omega)
      obtain ⟨x1, ex1⟩ : ∃ x, sgnN F N (t + 2) = x := ⟨_, rfl⟩
      have C1 := Lib.hid (SV.out (t + 2))
      rw [ex1] at C1
      have g1 : GV (k * 3 + 1) = x1 := by rw [EV.out, ← ex1]; congr 1 <;> (have := HTT.out; omega)
      obtain ⟨x2, ex2⟩ : ∃ x, sgnN F N (t + 2 + 2) = x := ⟨_, rfl⟩
      have C2 := Lib.hid (SV.out (t + 2 + 2))
      rw [ex2] at C2
      have g2 : GV (k * 3 + 2) = x2 := by rw [EV.out, ← ex2]; congr 1 <;> (have := HTT.out; omega)
      have GG : Hid (∀ i, i < 3 → ([.int .i64 x0, .int .i64 x1, .int .i64 x2] : List Value)[i]? = some (.int .i64 (GV (k * 3 + i)))) := Lib.hid (fun i hi => match i, hi with
        | 0, _ => by rw [g0]; rfl
        | 1, _ => by rw [g1]; rfl
        | 2, _ => by rw [g2]; rfl)
      have TN : Hid (t + 2 + 2 + 2 = 2 + (k + 1) * 6) := Lib.hid (by have := HTT.out; omega)
      clear hk hlt et ex0 g0 ex1 g1 ex2 g2
      go_upto_region 7 with fail
      have HQ_ := Lib.hid HQ.out.drew
      have HM_ := Lib.hid HM.out.drew
      have HV_ := Lib.hid HV.out.drew
      have HU_ := Lib.hid HU.out.drew
      have HT_ := Lib.hid HT.out.drew
      have HR_ := Lib.hid (HR.out.later (Below.refl _ _).drew); have HB_ := Lib.hid (HB.out.trans (But.drew HR.out.lt))
      refine wp_region_held_drew (S := fun w' => (w'.cell? ⟨M, 0, none⟩ = some (.slice (some ⟨V, 0, none⟩) n n) ∧ w'.cell? ⟨Q, 0, none⟩ = some (.pointer (some ⟨K, 0, none⟩)) ∧ M < w'.heap.size ∧ Q < w'.heap.size)) (by kernel_rfl) ⟨HM_.out.at 0 _ rfl, HQ_.out.at 0 _ rfl, HM_.out.lt, HQ_.out.lt⟩ (fun hHeld => ?_)
      clear HR HB HQ HM HV HU HT
      generalize wr.drew = z0 at *
      have HQ := HQ_
      clear HQ_
      have HM := HM_
      clear HM_
      have HV := HV_
      clear HV_
      have HU := HU_
      clear HU_
      have HT := HT_
      clear HT_
      have HR := HR_
      clear HR_
      have HB := HB_
      clear HB_
      refine wpAnyH_take (i := 0) (v := .pointer (some ⟨M, 0, none⟩)) rfl (by kernel_rfl) (by kernel_rfl) (by kernel_rfl) (fun _ _ _ h => h) (Or.inl ⟨by rfl, fun w hSw => ?_⟩) (by assumption) ?_
      · (try dsimp only at hSw); go_simp
      try simp only [Act.put, List.getElem_toArray, List.getElem_cons_zero, List.getElem_cons_succ, List.setIfInBounds_toArray, List.set_cons_zero, List.set_cons_succ]
      refine wpAnyH_take (i := 1) (v := .slice (some ⟨V, 0, none⟩) n n) rfl (by kernel_rfl) (by kernel_rfl) (by kernel_rfl) (fun _ _ _ h => h) (Or.inl ⟨by rfl, fun w hSw => ?_⟩) (by assumption) ?_
      · (try dsimp only at hSw); go_simp
      try simp only [Act.put, List.getElem_toArray, List.getElem_cons_zero, List.getElem_cons_succ, List.setIfInBounds_toArray, List.set_cons_zero, List.set_cons_succ]
      refine wpAnyH_take (i := 2) (v := .int .i64 (k : Int)) rfl (by kernel_rfl) (by kernel_rfl) (by kernel_rfl) (fun _ _ _ h => h) (Or.inl ⟨by rfl, fun w hSw => ?_⟩) (by assumption) ?_
      · (try dsimp only at hSw); go_simp
      try simp only [Act.put, List.getElem_toArray, List.getElem_cons_zero, List.getElem_cons_succ, List.setIfInBounds_toArray, List.set_cons_zero, List.set_cons_succ]
      refine wpAnyH_take (i := 3) (v := .pointer (some ⟨Q, 0, none⟩)) rfl (by kernel_rfl) (by kernel_rfl) (by kernel_rfl) (fun _ _ _ h => h) (Or.inl ⟨by rfl, fun w hSw => ?_⟩) (by assumption) ?_
      · (try dsimp only at hSw); go_simp
      try simp only [Act.put, List.getElem_toArray, List.getElem_cons_zero, List.getElem_cons_succ, List.setIfInBounds_toArray, List.set_cons_zero, List.set_cons_succ]
      refine wpAnyH_take (i := 4) (v := .pointer (some ⟨K, 0, none⟩)) rfl (by kernel_rfl) (by kernel_rfl) (by kernel_rfl) (fun _ _ _ h => h) (Or.inl ⟨by rfl, fun w hSw => ?_⟩) (by assumption) ?_
      · (try dsimp only at hSw); go_simp
      try simp only [Act.put, List.getElem_toArray, List.getElem_cons_zero, List.getElem_cons_succ, List.setIfInBounds_toArray, List.set_cons_zero, List.set_cons_succ]
      refine wpAnyH_take (i := 6) (v := .pointer (some ⟨Q, 0, none⟩)) rfl (by kernel_rfl) (by kernel_rfl) (by kernel_rfl) (fun _ _ _ h => h) (Or.inl ⟨by rfl, fun w hSw => ?_⟩) (by assumption) ?_
      · (try dsimp only at hSw); go_simp
      try simp only [Act.put, List.getElem_toArray, List.getElem_cons_zero, List.getElem_cons_succ, List.setIfInBounds_toArray, List.set_cons_zero, List.set_cons_succ]
      refine wpAnyH_take (i := 7) (v := .pointer (some ⟨K, 0, none⟩)) rfl (by kernel_rfl) (by kernel_rfl) (by kernel_rfl) (fun _ _ _ h => h) (Or.inl ⟨by rfl, fun w hSw => ?_⟩) (by assumption) ?_
      · (try dsimp only at hSw); go_simp
      try simp only [Act.put, List.getElem_toArray, List.getElem_cons_zero, List.getElem_cons_succ, List.setIfInBounds_toArray, List.set_cons_zero, List.set_cons_succ]
      refine wpAnyH_take (i := 9) (v := .pointer (some ⟨Q, 0, none⟩)) rfl (by kernel_rfl) (by kernel_rfl) (by kernel_rfl) (fun _ _ _ h => h) (Or.inl ⟨by rfl, fun w hSw => ?_⟩) (by assumption) ?_
      · (try dsimp only at hSw); go_simp
      try simp only [Act.put, List.getElem_toArray, List.getElem_cons_zero, List.getElem_cons_succ, List.setIfInBounds_toArray, List.set_cons_zero, List.set_cons_succ]
      refine wpAnyH_take (i := 10) (v := .pointer (some ⟨K, 0, none⟩)) rfl (by kernel_rfl) (by kernel_rfl) (by kernel_rfl) (fun _ _ _ h => h) (Or.inl ⟨by rfl, fun w hSw => ?_⟩) (by assumption) ?_
      · (try dsimp only at hSw); go_simp
      try simp only [Act.put, List.getElem_toArray, List.getElem_cons_zero, List.getElem_cons_succ, List.setIfInBounds_toArray, List.set_cons_zero, List.set_cons_succ]
      refine wpAnyH_ready (rs := [5]) (by kernel_rfl) (by simp) ?_
      refine AllReadyH.cons rfl (fun K_ hK => ?_) AllReadyH.nil
      go_simp
      go_at_call 50
      refine (C0.out _ HR.out).mono ?_
      rintro e z1 ⟨rfl, h1, h2⟩
      have HQ_ := Lib.hid (HQ.out.but h2 nQK)
      have HM_ := Lib.hid (HM.out.but h2 nMK)
      have HV_ := Lib.hid (HV.out.but h2 nVK)
      have HU_ := Lib.hid (HU.out.but h2 nUK)
      have HT_ := Lib.hid (HT.out.but h2 nTK)
      have HB_ := Lib.hid (HB.out.trans h2)
      have HR_ := Lib.hid h1
      clear h1 h2 HR HB HQ HM HV HU HT
      have HQ := HQ_
      clear HQ_
      have HM := HM_
      clear HM_
      have HV := HV_
      clear HV_
      have HU := HU_
      clear HU_
      have HT := HT_
      clear HT_
      have HR := HR_
      clear HR_
      have HB := HB_
      clear HB_
      refine hK.out _ _ ⟨HM.out.at 0 _ rfl, HQ.out.at 0 _ rfl, HM.out.lt, HQ.out.lt⟩ (fun hHeld => ?_)
      clear hK K_
      try simp only [Act.put, List.getElem_toArray, List.getElem_cons_zero, List.getElem_cons_succ, List.setIfInBounds_toArray, List.set_cons_zero, List.set_cons_succ]
      refine wpAnyH_ready (rs := [8]) (by kernel_rfl) (by simp) ?_
      refine AllReadyH.cons rfl (fun K_ hK => ?_) AllReadyH.nil
      go_simp
      go_at_call 50
      refine (C1.out _ HR.out).mono ?_
      rintro e z2 ⟨rfl, h1, h2⟩
      have HQ_ := Lib.hid (HQ.out.but h2 nQK)
      have HM_ := Lib.hid (HM.out.but h2 nMK)
      have HV_ := Lib.hid (HV.out.but h2 nVK)
      have HU_ := Lib.hid (HU.out.but h2 nUK)
      have HT_ := Lib.hid (HT.out.but h2 nTK)
      have HB_ := Lib.hid (HB.out.trans h2)
      have HR_ := Lib.hid h1
      clear h1 h2 HR HB HQ HM HV HU HT
      have HQ := HQ_
      clear HQ_
      have HM := HM_
      clear HM_
      have HV := HV_
      clear HV_
      have HU := HU_
      clear HU_
      have HT := HT_
      clear HT_
      have HR := HR_
      clear HR_
      have HB := HB_
      clear HB_
      refine hK.out _ _ ⟨HM.out.at 0 _ rfl, HQ.out.at 0 _ rfl, HM.out.lt, HQ.out.lt⟩ (fun hHeld => ?_)
      clear hK K_
      try simp only [Act.put, List.getElem_toArray, List.getElem_cons_zero, List.getElem_cons_succ, List.setIfInBounds_toArray, List.set_cons_zero, List.set_cons_succ]
      refine wpAnyH_ready (rs := [11]) (by kernel_rfl) (by simp) ?_
      refine AllReadyH.cons rfl (fun K_ hK => ?_) AllReadyH.nil
      go_simp
      go_at_call 50
      refine (C2.out _ HR.out).mono ?_
      rintro e z3 ⟨rfl, h1, h2⟩
      have HQ_ := Lib.hid (HQ.out.but h2 nQK)
      have HM_ := Lib.hid (HM.out.but h2 nMK)
      have HV_ := Lib.hid (HV.out.but h2 nVK)
      have HU_ := Lib.hid (HU.out.but h2 nUK)
      have HT_ := Lib.hid (HT.out.but h2 nTK)
      have HB_ := Lib.hid (HB.out.trans h2)
      have HR_ := Lib.hid h1
      clear h1 h2 HR HB HQ HM HV HU HT
      have HQ := HQ_
      clear HQ_
      have HM := HM_
      clear HM_
      have HV := HV_
      clear HV_
      have HU := HU_
      clear HU_
      have HT := HT_
      clear HT_
      have HR := HR_
      clear HR_
      have HB := HB_
      clear HB_
      refine hK.out _ _ ⟨HM.out.at 0 _ rfl, HQ.out.at 0 _ rfl, HM.out.lt, HQ.out.lt⟩ (fun hHeld => ?_)
      clear hK K_
      try simp only [Act.put, List.getElem_toArray, List.getElem_cons_zero, List.getElem_cons_succ, List.setIfInBounds_toArray, List.set_cons_zero, List.set_cons_succ]
      refine wpAnyH_take (i := 12) (v := .agg #[.int .i64 x0, .int .i64 x1, .int .i64 x2]) rfl (by kernel_rfl) (by kernel_rfl) (by kernel_rfl) (fun _ _ _ h => h) (Or.inl ⟨by rfl, fun w hSw => ?_⟩) (by assumption) ?_
      · (try dsimp only at hSw); go_simp
      try simp only [Act.put, List.getElem_toArray, List.getElem_cons_zero, List.getElem_cons_succ, List.setIfInBounds_toArray, List.set_cons_zero, List.set_cons_succ]
      refine wpAnyH_take (i := 13) (v := .pointer (some ⟨V, k * 3, none⟩)) rfl (by kernel_rfl) (by kernel_rfl) (by kernel_rfl) (fun _ _ _ h => h) (Or.inl ⟨by rfl, fun w hSw => ?_⟩) (by assumption) ?_
      · (try dsimp only at hSw); go_simp
      try simp only [Act.put, List.getElem_toArray, List.getElem_cons_zero, List.getElem_cons_succ, List.setIfInBounds_toArray, List.set_cons_zero, List.set_cons_succ]
      refine wpAnyH_ready (rs := [14]) (by kernel_rfl) (by simp) ?_
      refine AllReadyH.cons rfl (fun K_ hK => ?_) AllReadyH.nil
      refine step_store (by simp [Region.wanted]) 46 _ _ rfl V (k * 3) #[.int .i64 x0, .int .i64 x1, .int .i64 x2] rfl rfl (HV.out.room (by rw [nums_length]; have := HLT.out; simp; omega)) (by kernel_rfl) (by simp [Value.oneCell']) ?_
      change K_ _ (z3.setCells V (k * 3) [.int .i64 x0, .int .i64 x1, .int .i64 x2])
      have hbm : But V z3 (z3.setCells V (k * 3) [.int .i64 x0, .int .i64 x1, .int .i64 x2]) := But.store
      have HV_ : Hid (Own V (nums .i64 (uptoG GV ((k + 1) * 3)) (n * 3)) (z3.setCells V (k * 3) [.int .i64 x0, .int .i64 x1, .int .i64 x2])) := Lib.hid (by rw [show (k + 1) * 3 = k * 3 + 3 from Nat.succ_mul _ _, ← over_uptoG GV (n * 3) (k * 3) 3 [.int .i64 x0, .int .i64 x1, .int .i64 x2] rfl GG.out (by have := HLT.out; omega)]; exact Own.part HV.out (by rw [nums_length]; have := HLT.out; simp; omega))
      have HQ_ := Lib.hid (HQ.out.but hbm nQV)
      have HM_ := Lib.hid (HM.out.but hbm nMV)
      have HU_ := Lib.hid (HU.out.but hbm nUV)
      have HT_ := Lib.hid (HT.out.but hbm nTV)
      have HR_ := Lib.hid (HR.out.far hbm nKV nDV)
      have HB_ := Lib.hid (HB.out.news (o := (k * 3)) (vs := [.int .i64 x0, .int .i64 x1, .int .i64 x2]) VW.out KL.out)
      clear hbm HR HB HQ HM HV HU HT
      generalize z3.setCells V (k * 3) [.int .i64 x0, .int .i64 x1, .int .i64 x2] = zz at *
      have HQ := HQ_
      clear HQ_
      have HM := HM_
      clear HM_
      have HV := HV_
      clear HV_
      have HU := HU_
      clear HU_
      have HT := HT_
      clear HT_
      have HR := HR_
      clear HR_
      have HB := HB_
      clear HB_
      refine hK.out _ _ ⟨HM.out.at 0 _ rfl, HQ.out.at 0 _ rfl, HM.out.lt, HQ.out.lt⟩ (fun hHeld => ?_)
      clear hK K_
      try simp only [Act.put, List.getElem_toArray, List.getElem_cons_zero, List.getElem_cons_succ, List.setIfInBounds_toArray, List.set_cons_zero, List.set_cons_succ]
      refine wpAnyH_done (by kernel_rfl) ?_ _
      have HR_ : Hid (Rd zz K D F N (2 + (k + 1) * 6) (erN N (2 + (k + 1) * 6))) := Lib.hid (by rw [← TN.out]; exact HR.out)
      clear hHeld HR GG TN C0 C1 C2
      go_wp2_with (fail)
      go_roundw
      case rel => (first | exact ⟨k + 1, HLT.out, by go_num, HQ, HM, HV, HU, HT, HR_, HB⟩ | ((repeat apply Exists.intro); exact ⟨⟨k + 1, HLT.out, by go_num, HQ, HM, HV, HU, HT, HR_, HB⟩, rfl⟩))
      case measure => (have := HLT.out; simp [intOf]; omega)
    · obtain rfl : n = k := by omega
      clear hlt hk
      obtain ⟨v1, ewr⟩ : ∃ x, x = wr := ⟨_, rfl⟩
      subst ewr
      have oM := HM.out
      have M1 := oM.at 1 _ rfl
      have Ml := oM.lt
      clear oM
      go_wp2_with (fail)
      clear M1 Ml
      have HU0 : Hid (Own U (nums .i64 (uptoG GU (0 * 2)) (n * 2)) v1) := Lib.hid (by rw [Nat.zero_mul, uptoG_zero]; exact HU.out)
      have HR0 : Hid (Rd v1 K D F N (2 + n * 6 + 0 * 4) (erN N (2 + n * 6 + 0 * 4))) := Lib.hid (by rw [show 2 + n * 6 + 0 * 4 = 2 + n * 6 by omega]; exact HR.out)
      clear HU HR
      go_loopw [4, 45] (fun _ iv wr => ∃ (k : Nat), k ≤ n ∧ iv = .int .i64 k ∧ Hid (Own Q [.pointer (some ⟨K, 0, none⟩)] wr) ∧ Hid (Own M [.slice (some ⟨V, 0, none⟩) n n, .slice (some ⟨U, 0, none⟩) n n, .slice (some ⟨T, 0, none⟩) m m] wr) ∧ Hid (Own V (nums .i64 (uptoG GV (n * 3)) (n * 3)) wr) ∧ Hid (Own U (nums .i64 (uptoG GU (k * 2)) (n * 2)) wr) ∧ Hid (Own T (nums .i64 (fun _ => 0) (m * 3)) wr) ∧ Hid (Rd wr K D F N (2 + n * 6 + k * 4) (erN N (2 + n * 6 + k * 4))) ∧ Hid (But K w wr)) (fun _ iv _ => (n - (intOf iv).toNat))
      case atStart => exact ⟨0, Nat.zero_le _, rfl, HQ, HM, HV, HU0, HT, HR0, HB⟩
      case round =>
        clear HQ HM HR0 HB HV HU0 HT
        obtain ⟨k, hk, rfl, HQ, HM, HV, HU, HT, HR, HB⟩ := hrel
        by_cases hlt : k < n
        · have hki : (k : Int) < (n : Int) := by omega
          have k0 : (0 : Int) ≤ (k : Int) := by omega
          have wk : IntKind.i64.wrap ((k : Int) + 1) = (k : Int) + 1 := IntWalk.i64_in _ (by have := NB.out; omega)
          have HLT := Lib.hid hlt
          obtain ⟨t, et⟩ : ∃ t, 2 + n * 6 + k * 4 = t := ⟨_, rfl⟩
          rw [et] at HR
          have HTT := Lib.hid et
          obtain ⟨x0, ex0⟩ : ∃ x, valN F N (t) 2 = x := ⟨_, rfl⟩
          have C0 := Lib.hid (SU.out (t))
          rw [ex0] at C0
          have wx0 := BU.out (t)
          rw [ex0] at wx0
          have g0 : GU (k * 2 + 0) = x0 := by rw [EU.out, ← ex0]; congr 1 <;> (have := HTT.out; omega)
          obtain ⟨x1, ex1⟩ : ∃ x, valN F N (t + 2) 2 = x := ⟨_, rfl⟩
          have C1 := Lib.hid (SU.out (t + 2))
          rw [ex1] at C1
          have wx1 := BU.out (t + 2)
          rw [ex1] at wx1
          have g1 : GU (k * 2 + 1) = x1 := by rw [EU.out, ← ex1]; congr 1 <;> (have := HTT.out; omega)
          have GG : Hid (∀ i, i < 2 → ([.int .i64 x0, .int .i64 x1] : List Value)[i]? = some (.int .i64 (GU (k * 2 + i)))) := Lib.hid (fun i hi => match i, hi with
            | 0, _ => by rw [g0]; rfl
            | 1, _ => by rw [g1]; rfl)
          have TN : Hid (t + 2 + 2 = 2 + n * 6 + (k + 1) * 4) := Lib.hid (by have := HTT.out; omega)
          clear hk hlt et ex0 g0 ex1 g1
          go_upto_region 12 with fail
          have HQ_ := Lib.hid HQ.out.drew
          have HM_ := Lib.hid HM.out.drew
          have HV_ := Lib.hid HV.out.drew
          have HU_ := Lib.hid HU.out.drew
          have HT_ := Lib.hid HT.out.drew
          have HR_ := Lib.hid (HR.out.later (Below.refl _ _).drew); have HB_ := Lib.hid (HB.out.trans (But.drew HR.out.lt))
          refine wp_region_held_drew (S := fun w' => (w'.cell? ⟨M, 1, none⟩ = some (.slice (some ⟨U, 0, none⟩) n n) ∧ w'.cell? ⟨Q, 0, none⟩ = some (.pointer (some ⟨K, 0, none⟩)) ∧ M < w'.heap.size ∧ Q < w'.heap.size)) (by kernel_rfl) ⟨HM_.out.at 1 _ rfl, HQ_.out.at 0 _ rfl, HM_.out.lt, HQ_.out.lt⟩ (fun hHeld => ?_)
          clear HR HB HQ HM HV HU HT
          generalize wr.drew = z0 at *
          have HQ := HQ_
          clear HQ_
          have HM := HM_
          clear HM_
          have HV := HV_
          clear HV_
          have HU := HU_
          clear HU_
          have HT := HT_
          clear HT_
          have HR := HR_
          clear HR_
          have HB := HB_
          clear HB_
          refine wpAnyH_take (i := 0) (v := .pointer (some ⟨M, 1, none⟩)) rfl (by kernel_rfl) (by kernel_rfl) (by kernel_rfl) (fun _ _ _ h => h) (Or.inl ⟨by rfl, fun w hSw => ?_⟩) (by assumption) ?_
          · (try dsimp only at hSw); go_simp
          try simp only [Act.put, List.getElem_toArray, List.getElem_cons_zero, List.getElem_cons_succ, List.setIfInBounds_toArray, List.set_cons_zero, List.set_cons_succ]
          refine wpAnyH_take (i := 1) (v := .slice (some ⟨U, 0, none⟩) n n) rfl (by kernel_rfl) (by kernel_rfl) (by kernel_rfl) (fun _ _ _ h => h) (Or.inl ⟨by rfl, fun w hSw => ?_⟩) (by assumption) ?_
          · (try dsimp only at hSw); go_simp
          try simp only [Act.put, List.getElem_toArray, List.getElem_cons_zero, List.getElem_cons_succ, List.setIfInBounds_toArray, List.set_cons_zero, List.set_cons_succ]
          refine wpAnyH_take (i := 2) (v := .int .i64 (k : Int)) rfl (by kernel_rfl) (by kernel_rfl) (by kernel_rfl) (fun _ _ _ h => h) (Or.inl ⟨by rfl, fun w hSw => ?_⟩) (by assumption) ?_
          · (try dsimp only at hSw); go_simp
          try simp only [Act.put, List.getElem_toArray, List.getElem_cons_zero, List.getElem_cons_succ, List.setIfInBounds_toArray, List.set_cons_zero, List.set_cons_succ]
          refine wpAnyH_take (i := 3) (v := .pointer (some ⟨Q, 0, none⟩)) rfl (by kernel_rfl) (by kernel_rfl) (by kernel_rfl) (fun _ _ _ h => h) (Or.inl ⟨by rfl, fun w hSw => ?_⟩) (by assumption) ?_
          · (try dsimp only at hSw); go_simp
          try simp only [Act.put, List.getElem_toArray, List.getElem_cons_zero, List.getElem_cons_succ, List.setIfInBounds_toArray, List.set_cons_zero, List.set_cons_succ]
          refine wpAnyH_take (i := 4) (v := .pointer (some ⟨K, 0, none⟩)) rfl (by kernel_rfl) (by kernel_rfl) (by kernel_rfl) (fun _ _ _ h => h) (Or.inl ⟨by rfl, fun w hSw => ?_⟩) (by assumption) ?_
          · (try dsimp only at hSw); go_simp
          try simp only [Act.put, List.getElem_toArray, List.getElem_cons_zero, List.getElem_cons_succ, List.setIfInBounds_toArray, List.set_cons_zero, List.set_cons_succ]
          refine wpAnyH_take (i := 7) (v := .pointer (some ⟨Q, 0, none⟩)) rfl (by kernel_rfl) (by kernel_rfl) (by kernel_rfl) (fun _ _ _ h => h) (Or.inl ⟨by rfl, fun w hSw => ?_⟩) (by assumption) ?_
          · (try dsimp only at hSw); go_simp
          try simp only [Act.put, List.getElem_toArray, List.getElem_cons_zero, List.getElem_cons_succ, List.setIfInBounds_toArray, List.set_cons_zero, List.set_cons_succ]
          refine wpAnyH_take (i := 8) (v := .pointer (some ⟨K, 0, none⟩)) rfl (by kernel_rfl) (by kernel_rfl) (by kernel_rfl) (fun _ _ _ h => h) (Or.inl ⟨by rfl, fun w hSw => ?_⟩) (by assumption) ?_
          · (try dsimp only at hSw); go_simp
          try simp only [Act.put, List.getElem_toArray, List.getElem_cons_zero, List.getElem_cons_succ, List.setIfInBounds_toArray, List.set_cons_zero, List.set_cons_succ]
          refine wpAnyH_ready (rs := [5]) (by kernel_rfl) (by simp) ?_
          refine AllReadyH.cons rfl (fun K_ hK => ?_) AllReadyH.nil
          go_simp
          go_at_call 49
          refine (C0.out _ HR.out).mono ?_
          rintro e z1 ⟨rfl, h1, h2⟩
          have HQ_ := Lib.hid (HQ.out.but h2 nQK)
          have HM_ := Lib.hid (HM.out.but h2 nMK)
          have HV_ := Lib.hid (HV.out.but h2 nVK)
          have HU_ := Lib.hid (HU.out.but h2 nUK)
          have HT_ := Lib.hid (HT.out.but h2 nTK)
          have HB_ := Lib.hid (HB.out.trans h2)
          have HR_ := Lib.hid h1
          clear h1 h2 HR HB HQ HM HV HU HT
          have HQ := HQ_
          clear HQ_
          have HM := HM_
          clear HM_
          have HV := HV_
          clear HV_
          have HU := HU_
          clear HU_
          have HT := HT_
          clear HT_
          have HR := HR_
          clear HR_
          have HB := HB_
          clear HB_
          refine hK.out _ _ ⟨HM.out.at 1 _ rfl, HQ.out.at 0 _ rfl, HM.out.lt, HQ.out.lt⟩ (fun hHeld => ?_)
          clear hK K_
          try simp only [Act.put, List.getElem_toArray, List.getElem_cons_zero, List.getElem_cons_succ, List.setIfInBounds_toArray, List.set_cons_zero, List.set_cons_succ]
          refine wpAnyH_take (i := 6) (v := .int .i64 x0) rfl (by kernel_rfl) (by kernel_rfl) (by kernel_rfl) (fun _ _ _ h => h) (Or.inl ⟨by rfl, fun w hSw => ?_⟩) (by assumption) ?_
          · (try dsimp only at hSw); go_simp
          try simp only [Act.put, List.getElem_toArray, List.getElem_cons_zero, List.getElem_cons_succ, List.setIfInBounds_toArray, List.set_cons_zero, List.set_cons_succ]
          refine wpAnyH_ready (rs := [9]) (by kernel_rfl) (by simp) ?_
          refine AllReadyH.cons rfl (fun K_ hK => ?_) AllReadyH.nil
          go_simp
          go_at_call 49
          refine (C1.out _ HR.out).mono ?_
          rintro e z2 ⟨rfl, h1, h2⟩
          have HQ_ := Lib.hid (HQ.out.but h2 nQK)
          have HM_ := Lib.hid (HM.out.but h2 nMK)
          have HV_ := Lib.hid (HV.out.but h2 nVK)
          have HU_ := Lib.hid (HU.out.but h2 nUK)
          have HT_ := Lib.hid (HT.out.but h2 nTK)
          have HB_ := Lib.hid (HB.out.trans h2)
          have HR_ := Lib.hid h1
          clear h1 h2 HR HB HQ HM HV HU HT
          have HQ := HQ_
          clear HQ_
          have HM := HM_
          clear HM_
          have HV := HV_
          clear HV_
          have HU := HU_
          clear HU_
          have HT := HT_
          clear HT_
          have HR := HR_
          clear HR_
          have HB := HB_
          clear HB_
          refine hK.out _ _ ⟨HM.out.at 1 _ rfl, HQ.out.at 0 _ rfl, HM.out.lt, HQ.out.lt⟩ (fun hHeld => ?_)
          clear hK K_
          try simp only [Act.put, List.getElem_toArray, List.getElem_cons_zero, List.getElem_cons_succ, List.setIfInBounds_toArray, List.set_cons_zero, List.set_cons_succ]
          refine wpAnyH_take (i := 10) (v := .int .i64 x1) rfl (by kernel_rfl) (by kernel_rfl) (by kernel_rfl) (fun _ _ _ h => h) (Or.inl ⟨by rfl, fun w hSw => ?_⟩) (by assumption) ?_
          · (try dsimp only at hSw); go_simp
          try simp only [Act.put, List.getElem_toArray, List.getElem_cons_zero, List.getElem_cons_succ, List.setIfInBounds_toArray, List.set_cons_zero, List.set_cons_succ]
          refine wpAnyH_take (i := 11) (v := .agg #[.int .i64 x0, .int .i64 x1]) rfl (by kernel_rfl) (by kernel_rfl) (by kernel_rfl) (fun _ _ _ h => h) (Or.inl ⟨by rfl, fun w hSw => ?_⟩) (by assumption) ?_
          · (try dsimp only at hSw); go_simp
          try simp only [Act.put, List.getElem_toArray, List.getElem_cons_zero, List.getElem_cons_succ, List.setIfInBounds_toArray, List.set_cons_zero, List.set_cons_succ]
          refine wpAnyH_take (i := 12) (v := .pointer (some ⟨U, k * 2, none⟩)) rfl (by kernel_rfl) (by kernel_rfl) (by kernel_rfl) (fun _ _ _ h => h) (Or.inl ⟨by rfl, fun w hSw => ?_⟩) (by assumption) ?_
          · (try dsimp only at hSw); go_simp
          try simp only [Act.put, List.getElem_toArray, List.getElem_cons_zero, List.getElem_cons_succ, List.setIfInBounds_toArray, List.set_cons_zero, List.set_cons_succ]
          refine wpAnyH_ready (rs := [13]) (by kernel_rfl) (by simp) ?_
          refine AllReadyH.cons rfl (fun K_ hK => ?_) AllReadyH.nil
          refine step_store (by simp [Region.wanted]) 48 _ _ rfl U (k * 2) #[.int .i64 x0, .int .i64 x1] rfl rfl (HU.out.room (by rw [nums_length]; have := HLT.out; simp; omega)) (by kernel_rfl) (by simp [Value.oneCell']) ?_
          change K_ _ (z2.setCells U (k * 2) [.int .i64 x0, .int .i64 x1])
          have hbm : But U z2 (z2.setCells U (k * 2) [.int .i64 x0, .int .i64 x1]) := But.store
          have HU_ : Hid (Own U (nums .i64 (uptoG GU ((k + 1) * 2)) (n * 2)) (z2.setCells U (k * 2) [.int .i64 x0, .int .i64 x1])) := Lib.hid (by rw [show (k + 1) * 2 = k * 2 + 2 from Nat.succ_mul _ _, ← over_uptoG GU (n * 2) (k * 2) 2 [.int .i64 x0, .int .i64 x1] rfl GG.out (by have := HLT.out; omega)]; exact Own.part HU.out (by rw [nums_length]; have := HLT.out; simp; omega))
          have HQ_ := Lib.hid (HQ.out.but hbm nQU)
          have HM_ := Lib.hid (HM.out.but hbm nMU)
          have HV_ := Lib.hid (HV.out.but hbm nVU)
          have HT_ := Lib.hid (HT.out.but hbm nTU)
          have HR_ := Lib.hid (HR.out.far hbm nKU nDU)
          have HB_ := Lib.hid (HB.out.news (o := (k * 2)) (vs := [.int .i64 x0, .int .i64 x1]) UW.out KL.out)
          clear hbm HR HB HQ HM HV HU HT
          generalize z2.setCells U (k * 2) [.int .i64 x0, .int .i64 x1] = zz at *
          have HQ := HQ_
          clear HQ_
          have HM := HM_
          clear HM_
          have HV := HV_
          clear HV_
          have HU := HU_
          clear HU_
          have HT := HT_
          clear HT_
          have HR := HR_
          clear HR_
          have HB := HB_
          clear HB_
          refine hK.out _ _ ⟨HM.out.at 1 _ rfl, HQ.out.at 0 _ rfl, HM.out.lt, HQ.out.lt⟩ (fun hHeld => ?_)
          clear hK K_
          try simp only [Act.put, List.getElem_toArray, List.getElem_cons_zero, List.getElem_cons_succ, List.setIfInBounds_toArray, List.set_cons_zero, List.set_cons_succ]
          refine wpAnyH_done (by kernel_rfl) ?_ _
          have HR_ : Hid (Rd zz K D F N (2 + n * 6 + (k + 1) * 4) (erN N (2 + n * 6 + (k + 1) * 4))) := Lib.hid (by rw [← TN.out]; exact HR.out)
          clear hHeld HR GG TN C0 C1
          go_wp2_with (fail)
          go_roundw
          case rel => (first | exact ⟨k + 1, HLT.out, by go_num, HQ, HM, HV, HU, HT, HR_, HB⟩ | ((repeat apply Exists.intro); exact ⟨⟨k + 1, HLT.out, by go_num, HQ, HM, HV, HU, HT, HR_, HB⟩, rfl⟩))
          case measure => (have := HLT.out; simp [intOf]; omega)
        · obtain rfl : n = k := by omega
          clear hlt hk
          obtain ⟨v2, ewr⟩ : ∃ x, x = wr := ⟨_, rfl⟩
          subst ewr
          have oM := HM.out
          have M2 := oM.at 2 _ rfl
          have Ml := oM.lt
          clear oM
          go_wp2_with (fail)
          clear M2 Ml
          have HT0 : Hid (Own T (nums .i64 (uptoG GR (0 * 3)) (m * 3)) v2) := Lib.hid (by rw [Nat.zero_mul, uptoG_zero]; exact HT.out)
          have HR0 : Hid (Rd v2 K D F N (2 + n * 10 + 0 * 3) (erN N (2 + n * 10 + 0 * 3))) := Lib.hid (by rw [show 2 + n * 10 + 0 * 3 = 2 + n * 6 + n * 4 by omega]; exact HR.out)
          clear HT HR
          go_loopw [5, 65] (fun _ iv wr => ∃ (k : Nat), k ≤ m ∧ iv = .int .i64 k ∧ Hid (Own Q [.pointer (some ⟨K, 0, none⟩)] wr) ∧ Hid (Own M [.slice (some ⟨V, 0, none⟩) n n, .slice (some ⟨U, 0, none⟩) n n, .slice (some ⟨T, 0, none⟩) m m] wr) ∧ Hid (Own V (nums .i64 (uptoG GV (n * 3)) (n * 3)) wr) ∧ Hid (Own U (nums .i64 (uptoG GU (n * 2)) (n * 2)) wr) ∧ Hid (Own T (nums .i64 (uptoG GR (k * 3)) (m * 3)) wr) ∧ Hid (Rd wr K D F N (2 + n * 10 + k * 3) (erN N (2 + n * 10 + k * 3))) ∧ Hid (But K w wr)) (fun _ iv _ => (m - (intOf iv).toNat))
          case atStart => exact ⟨0, Nat.zero_le _, rfl, HQ, HM, HV, HU, HT0, HR0, HB⟩
          case round =>
            clear HQ HM HR0 HB HV HU HT0
            obtain ⟨k, hk, rfl, HQ, HM, HV, HU, HT, HR, HB⟩ := hrel
            by_cases hlt : k < m
            · have hki : (k : Int) < (m : Int) := by omega
              have k0 : (0 : Int) ≤ (k : Int) := by omega
              have wk : IntKind.i64.wrap ((k : Int) + 1) = (k : Int) + 1 := IntWalk.i64_in _ (by have := MB.out; omega)
              have HLT := Lib.hid hlt
              obtain ⟨t, et⟩ : ∃ t, 2 + n * 10 + k * 3 = t := ⟨_, rfl⟩
              rw [et] at HR
              have HTT := Lib.hid et
              obtain ⟨x0, ex0⟩ : ∃ x, valN F N (t) 1 = x := ⟨_, rfl⟩
              have C0 := Lib.hid (ST.out (t))
              rw [ex0] at C0
              have wx0 := BT.out (t)
              rw [ex0] at wx0
              have g0 : GR (k * 3 + 0) = x0 := by rw [ER.out, ← ex0]; congr 1 <;> (have := HTT.out; omega)
              obtain ⟨x1, ex1⟩ : ∃ x, valN F N (t + 1) 1 = x := ⟨_, rfl⟩
              have C1 := Lib.hid (ST.out (t + 1))
              rw [ex1] at C1
              have wx1 := BT.out (t + 1)
              rw [ex1] at wx1
              have g1 : GR (k * 3 + 1) = x1 := by rw [ER.out, ← ex1]; congr 1 <;> (have := HTT.out; omega)
              obtain ⟨x2, ex2⟩ : ∃ x, valN F N (t + 1 + 1) 1 = x := ⟨_, rfl⟩
              have C2 := Lib.hid (ST.out (t + 1 + 1))
              rw [ex2] at C2
              have wx2 := BT.out (t + 1 + 1)
              rw [ex2] at wx2
              have g2 : GR (k * 3 + 2) = x2 := by rw [ER.out, ← ex2]; congr 1 <;> (have := HTT.out; omega)
              have GG : Hid (∀ i, i < 3 → ([.int .i64 x0, .int .i64 x1, .int .i64 x2] : List Value)[i]? = some (.int .i64 (GR (k * 3 + i)))) := Lib.hid (fun i hi => match i, hi with
                | 0, _ => by rw [g0]; rfl
                | 1, _ => by rw [g1]; rfl
                | 2, _ => by rw [g2]; rfl)
              have TN : Hid (t + 1 + 1 + 1 = 2 + n * 10 + (k + 1) * 3) := Lib.hid (by have := HTT.out; omega)
              clear hk hlt et ex0 g0 ex1 g1 ex2 g2
              go_upto_region 17 with fail
              have HQ_ := Lib.hid HQ.out.drew
              have HM_ := Lib.hid HM.out.drew
              have HV_ := Lib.hid HV.out.drew
              have HU_ := Lib.hid HU.out.drew
              have HT_ := Lib.hid HT.out.drew
              have HR_ := Lib.hid (HR.out.later (Below.refl _ _).drew); have HB_ := Lib.hid (HB.out.trans (But.drew HR.out.lt))
              refine wp_region_held_drew (S := fun w' => (w'.cell? ⟨M, 2, none⟩ = some (.slice (some ⟨T, 0, none⟩) m m) ∧ w'.cell? ⟨Q, 0, none⟩ = some (.pointer (some ⟨K, 0, none⟩)) ∧ M < w'.heap.size ∧ Q < w'.heap.size)) (by kernel_rfl) ⟨HM_.out.at 2 _ rfl, HQ_.out.at 0 _ rfl, HM_.out.lt, HQ_.out.lt⟩ (fun hHeld => ?_)
              clear HR HB HQ HM HV HU HT
              generalize wr.drew = z0 at *
              have HQ := HQ_
              clear HQ_
              have HM := HM_
              clear HM_
              have HV := HV_
              clear HV_
              have HU := HU_
              clear HU_
              have HT := HT_
              clear HT_
              have HR := HR_
              clear HR_
              have HB := HB_
              clear HB_
              refine wpAnyH_take (i := 0) (v := .pointer (some ⟨M, 2, none⟩)) rfl (by kernel_rfl) (by kernel_rfl) (by kernel_rfl) (fun _ _ _ h => h) (Or.inl ⟨by rfl, fun w hSw => ?_⟩) (by assumption) ?_
              · (try dsimp only at hSw); go_simp
              try simp only [Act.put, List.getElem_toArray, List.getElem_cons_zero, List.getElem_cons_succ, List.setIfInBounds_toArray, List.set_cons_zero, List.set_cons_succ]
              refine wpAnyH_take (i := 1) (v := .slice (some ⟨T, 0, none⟩) m m) rfl (by kernel_rfl) (by kernel_rfl) (by kernel_rfl) (fun _ _ _ h => h) (Or.inl ⟨by rfl, fun w hSw => ?_⟩) (by assumption) ?_
              · (try dsimp only at hSw); go_simp
              try simp only [Act.put, List.getElem_toArray, List.getElem_cons_zero, List.getElem_cons_succ, List.setIfInBounds_toArray, List.set_cons_zero, List.set_cons_succ]
              refine wpAnyH_take (i := 2) (v := .int .i64 (k : Int)) rfl (by kernel_rfl) (by kernel_rfl) (by kernel_rfl) (fun _ _ _ h => h) (Or.inl ⟨by rfl, fun w hSw => ?_⟩) (by assumption) ?_
              · (try dsimp only at hSw); go_simp
              try simp only [Act.put, List.getElem_toArray, List.getElem_cons_zero, List.getElem_cons_succ, List.setIfInBounds_toArray, List.set_cons_zero, List.set_cons_succ]
              refine wpAnyH_take (i := 3) (v := .pointer (some ⟨Q, 0, none⟩)) rfl (by kernel_rfl) (by kernel_rfl) (by kernel_rfl) (fun _ _ _ h => h) (Or.inl ⟨by rfl, fun w hSw => ?_⟩) (by assumption) ?_
              · (try dsimp only at hSw); go_simp
              try simp only [Act.put, List.getElem_toArray, List.getElem_cons_zero, List.getElem_cons_succ, List.setIfInBounds_toArray, List.set_cons_zero, List.set_cons_succ]
              refine wpAnyH_take (i := 4) (v := .pointer (some ⟨K, 0, none⟩)) rfl (by kernel_rfl) (by kernel_rfl) (by kernel_rfl) (fun _ _ _ h => h) (Or.inl ⟨by rfl, fun w hSw => ?_⟩) (by assumption) ?_
              · (try dsimp only at hSw); go_simp
              try simp only [Act.put, List.getElem_toArray, List.getElem_cons_zero, List.getElem_cons_succ, List.setIfInBounds_toArray, List.set_cons_zero, List.set_cons_succ]
              refine wpAnyH_take (i := 7) (v := .pointer (some ⟨Q, 0, none⟩)) rfl (by kernel_rfl) (by kernel_rfl) (by kernel_rfl) (fun _ _ _ h => h) (Or.inl ⟨by rfl, fun w hSw => ?_⟩) (by assumption) ?_
              · (try dsimp only at hSw); go_simp
              try simp only [Act.put, List.getElem_toArray, List.getElem_cons_zero, List.getElem_cons_succ, List.setIfInBounds_toArray, List.set_cons_zero, List.set_cons_succ]
              refine wpAnyH_take (i := 8) (v := .pointer (some ⟨K, 0, none⟩)) rfl (by kernel_rfl) (by kernel_rfl) (by kernel_rfl) (fun _ _ _ h => h) (Or.inl ⟨by rfl, fun w hSw => ?_⟩) (by assumption) ?_
              · (try dsimp only at hSw); go_simp
              try simp only [Act.put, List.getElem_toArray, List.getElem_cons_zero, List.getElem_cons_succ, List.setIfInBounds_toArray, List.set_cons_zero, List.set_cons_succ]
              refine wpAnyH_take (i := 11) (v := .pointer (some ⟨Q, 0, none⟩)) rfl (by kernel_rfl) (by kernel_rfl) (by kernel_rfl) (fun _ _ _ h => h) (Or.inl ⟨by rfl, fun w hSw => ?_⟩) (by assumption) ?_
              · (try dsimp only at hSw); go_simp
              try simp only [Act.put, List.getElem_toArray, List.getElem_cons_zero, List.getElem_cons_succ, List.setIfInBounds_toArray, List.set_cons_zero, List.set_cons_succ]
              refine wpAnyH_take (i := 12) (v := .pointer (some ⟨K, 0, none⟩)) rfl (by kernel_rfl) (by kernel_rfl) (by kernel_rfl) (fun _ _ _ h => h) (Or.inl ⟨by rfl, fun w hSw => ?_⟩) (by assumption) ?_
              · (try dsimp only at hSw); go_simp
              try simp only [Act.put, List.getElem_toArray, List.getElem_cons_zero, List.getElem_cons_succ, List.setIfInBounds_toArray, List.set_cons_zero, List.set_cons_succ]
              refine wpAnyH_ready (rs := [5]) (by kernel_rfl) (by simp) ?_
              refine AllReadyH.cons rfl (fun K_ hK => ?_) AllReadyH.nil
              go_simp
              go_at_call 49
              refine (C0.out _ HR.out).mono ?_
              rintro e z1 ⟨rfl, h1, h2⟩
              have HQ_ := Lib.hid (HQ.out.but h2 nQK)
              have HM_ := Lib.hid (HM.out.but h2 nMK)
              have HV_ := Lib.hid (HV.out.but h2 nVK)
              have HU_ := Lib.hid (HU.out.but h2 nUK)
              have HT_ := Lib.hid (HT.out.but h2 nTK)
              have HB_ := Lib.hid (HB.out.trans h2)
              have HR_ := Lib.hid h1
              clear h1 h2 HR HB HQ HM HV HU HT
              have HQ := HQ_
              clear HQ_
              have HM := HM_
              clear HM_
              have HV := HV_
              clear HV_
              have HU := HU_
              clear HU_
              have HT := HT_
              clear HT_
              have HR := HR_
              clear HR_
              have HB := HB_
              clear HB_
              refine hK.out _ _ ⟨HM.out.at 2 _ rfl, HQ.out.at 0 _ rfl, HM.out.lt, HQ.out.lt⟩ (fun hHeld => ?_)
              clear hK K_
              try simp only [Act.put, List.getElem_toArray, List.getElem_cons_zero, List.getElem_cons_succ, List.setIfInBounds_toArray, List.set_cons_zero, List.set_cons_succ]
              refine wpAnyH_take (i := 6) (v := .int .i64 x0) rfl (by kernel_rfl) (by kernel_rfl) (by kernel_rfl) (fun _ _ _ h => h) (Or.inl ⟨by rfl, fun w hSw => ?_⟩) (by assumption) ?_
              · (try dsimp only at hSw); go_simp
              try simp only [Act.put, List.getElem_toArray, List.getElem_cons_zero, List.getElem_cons_succ, List.setIfInBounds_toArray, List.set_cons_zero, List.set_cons_succ]
              refine wpAnyH_ready (rs := [9]) (by kernel_rfl) (by simp) ?_
              refine AllReadyH.cons rfl (fun K_ hK => ?_) AllReadyH.nil
              go_simp
              go_at_call 49
              refine (C1.out _ HR.out).mono ?_
              rintro e z2 ⟨rfl, h1, h2⟩
              have HQ_ := Lib.hid (HQ.out.but h2 nQK)
              have HM_ := Lib.hid (HM.out.but h2 nMK)
              have HV_ := Lib.hid (HV.out.but h2 nVK)
              have HU_ := Lib.hid (HU.out.but h2 nUK)
              have HT_ := Lib.hid (HT.out.but h2 nTK)
              have HB_ := Lib.hid (HB.out.trans h2)
              have HR_ := Lib.hid h1
              clear h1 h2 HR HB HQ HM HV HU HT
              have HQ := HQ_
              clear HQ_
              have HM := HM_
              clear HM_
              have HV := HV_
              clear HV_
              have HU := HU_
              clear HU_
              have HT := HT_
              clear HT_
              have HR := HR_
              clear HR_
              have HB := HB_
              clear HB_
              refine hK.out _ _ ⟨HM.out.at 2 _ rfl, HQ.out.at 0 _ rfl, HM.out.lt, HQ.out.lt⟩ (fun hHeld => ?_)
              clear hK K_
              try simp only [Act.put, List.getElem_toArray, List.getElem_cons_zero, List.getElem_cons_succ, List.setIfInBounds_toArray, List.set_cons_zero, List.set_cons_succ]
              refine wpAnyH_take (i := 10) (v := .int .i64 x1) rfl (by kernel_rfl) (by kernel_rfl) (by kernel_rfl) (fun _ _ _ h => h) (Or.inl ⟨by rfl, fun w hSw => ?_⟩) (by assumption) ?_
              · (try dsimp only at hSw); go_simp
              try simp only [Act.put, List.getElem_toArray, List.getElem_cons_zero, List.getElem_cons_succ, List.setIfInBounds_toArray, List.set_cons_zero, List.set_cons_succ]
              refine wpAnyH_ready (rs := [13]) (by kernel_rfl) (by simp) ?_
              refine AllReadyH.cons rfl (fun K_ hK => ?_) AllReadyH.nil
              go_simp
              go_at_call 49
              refine (C2.out _ HR.out).mono ?_
              rintro e z3 ⟨rfl, h1, h2⟩
              have HQ_ := Lib.hid (HQ.out.but h2 nQK)
              have HM_ := Lib.hid (HM.out.but h2 nMK)
              have HV_ := Lib.hid (HV.out.but h2 nVK)
              have HU_ := Lib.hid (HU.out.but h2 nUK)
              have HT_ := Lib.hid (HT.out.but h2 nTK)
              have HB_ := Lib.hid (HB.out.trans h2)
              have HR_ := Lib.hid h1
              clear h1 h2 HR HB HQ HM HV HU HT
              have HQ := HQ_
              clear HQ_
              have HM := HM_
              clear HM_
              have HV := HV_
              clear HV_
              have HU := HU_
              clear HU_
              have HT := HT_
              clear HT_
              have HR := HR_
              clear HR_
              have HB := HB_
              clear HB_
              refine hK.out _ _ ⟨HM.out.at 2 _ rfl, HQ.out.at 0 _ rfl, HM.out.lt, HQ.out.lt⟩ (fun hHeld => ?_)
              clear hK K_
              try simp only [Act.put, List.getElem_toArray, List.getElem_cons_zero, List.getElem_cons_succ, List.setIfInBounds_toArray, List.set_cons_zero, List.set_cons_succ]
              refine wpAnyH_take (i := 14) (v := .int .i64 x2) rfl (by kernel_rfl) (by kernel_rfl) (by kernel_rfl) (fun _ _ _ h => h) (Or.inl ⟨by rfl, fun w hSw => ?_⟩) (by assumption) ?_
              · (try dsimp only at hSw); go_simp
              try simp only [Act.put, List.getElem_toArray, List.getElem_cons_zero, List.getElem_cons_succ, List.setIfInBounds_toArray, List.set_cons_zero, List.set_cons_succ]
              refine wpAnyH_take (i := 15) (v := .agg #[.int .i64 x0, .int .i64 x1, .int .i64 x2]) rfl (by kernel_rfl) (by kernel_rfl) (by kernel_rfl) (fun _ _ _ h => h) (Or.inl ⟨by rfl, fun w hSw => ?_⟩) (by assumption) ?_
              · (try dsimp only at hSw); go_simp
              try simp only [Act.put, List.getElem_toArray, List.getElem_cons_zero, List.getElem_cons_succ, List.setIfInBounds_toArray, List.set_cons_zero, List.set_cons_succ]
              refine wpAnyH_take (i := 16) (v := .pointer (some ⟨T, k * 3, none⟩)) rfl (by kernel_rfl) (by kernel_rfl) (by kernel_rfl) (fun _ _ _ h => h) (Or.inl ⟨by rfl, fun w hSw => ?_⟩) (by assumption) ?_
              · (try dsimp only at hSw); go_simp
              try simp only [Act.put, List.getElem_toArray, List.getElem_cons_zero, List.getElem_cons_succ, List.setIfInBounds_toArray, List.set_cons_zero, List.set_cons_succ]
              refine wpAnyH_ready (rs := [17]) (by kernel_rfl) (by simp) ?_
              refine AllReadyH.cons rfl (fun K_ hK => ?_) AllReadyH.nil
              refine step_store (by simp [Region.wanted]) 52 _ _ rfl T (k * 3) #[.int .i64 x0, .int .i64 x1, .int .i64 x2] rfl rfl (HT.out.room (by rw [nums_length]; have := HLT.out; simp; omega)) (by kernel_rfl) (by simp [Value.oneCell']) ?_
              change K_ _ (z3.setCells T (k * 3) [.int .i64 x0, .int .i64 x1, .int .i64 x2])
              have hbm : But T z3 (z3.setCells T (k * 3) [.int .i64 x0, .int .i64 x1, .int .i64 x2]) := But.store
              have HT_ : Hid (Own T (nums .i64 (uptoG GR ((k + 1) * 3)) (m * 3)) (z3.setCells T (k * 3) [.int .i64 x0, .int .i64 x1, .int .i64 x2])) := Lib.hid (by rw [show (k + 1) * 3 = k * 3 + 3 from Nat.succ_mul _ _, ← over_uptoG GR (m * 3) (k * 3) 3 [.int .i64 x0, .int .i64 x1, .int .i64 x2] rfl GG.out (by have := HLT.out; omega)]; exact Own.part HT.out (by rw [nums_length]; have := HLT.out; simp; omega))
              have HQ_ := Lib.hid (HQ.out.but hbm nQT)
              have HM_ := Lib.hid (HM.out.but hbm nMT)
              have HV_ := Lib.hid (HV.out.but hbm nVT)
              have HU_ := Lib.hid (HU.out.but hbm nUT)
              have HR_ := Lib.hid (HR.out.far hbm nKT nDT)
              have HB_ := Lib.hid (HB.out.news (o := (k * 3)) (vs := [.int .i64 x0, .int .i64 x1, .int .i64 x2]) TW.out KL.out)
              clear hbm HR HB HQ HM HV HU HT
              generalize z3.setCells T (k * 3) [.int .i64 x0, .int .i64 x1, .int .i64 x2] = zz at *
              have HQ := HQ_
              clear HQ_
              have HM := HM_
              clear HM_
              have HV := HV_
              clear HV_
              have HU := HU_
              clear HU_
              have HT := HT_
              clear HT_
              have HR := HR_
              clear HR_
              have HB := HB_
              clear HB_
              refine hK.out _ _ ⟨HM.out.at 2 _ rfl, HQ.out.at 0 _ rfl, HM.out.lt, HQ.out.lt⟩ (fun hHeld => ?_)
              clear hK K_
              try simp only [Act.put, List.getElem_toArray, List.getElem_cons_zero, List.getElem_cons_succ, List.setIfInBounds_toArray, List.set_cons_zero, List.set_cons_succ]
              refine wpAnyH_done (by kernel_rfl) ?_ _
              have HR_ : Hid (Rd zz K D F N (2 + n * 10 + (k + 1) * 3) (erN N (2 + n * 10 + (k + 1) * 3))) := Lib.hid (by rw [← TN.out]; exact HR.out)
              clear hHeld HR GG TN C0 C1 C2
              go_wp2_with (fail)
              go_roundw
              case rel => (first | exact ⟨k + 1, HLT.out, by go_num, HQ, HM, HV, HU, HT, HR_, HB⟩ | ((repeat apply Exists.intro); exact ⟨⟨k + 1, HLT.out, by go_num, HQ, HM, HV, HU, HT, HR_, HB⟩, rfl⟩))
              case measure => (have := HLT.out; simp [intOf]; omega)
            · obtain rfl : m = k := by omega
              clear hlt hk
              have oM := HM.out
              have M0 := oM.at 0 _ rfl
              have Mf0 := oM.ok 0 (by simp)
              have M1 := oM.at 1 _ rfl
              have Mf1 := oM.ok 1 (by simp)
              have M2 := oM.at 2 _ rfl
              have Mf2 := oM.ok 2 (by simp)
              have Ml := oM.lt
              clear oM
              go_wp2_with (fail)
              clear M0 Mf0 M1 Mf1 M2 Mf2 Ml
              have hL := run_loadVar_mid (P := Try.prog) _ M 0 26 [.slice (some ⟨V, 0, none⟩) n n, .slice (some ⟨U, 0, none⟩) n n, .slice (some ⟨T, 0, none⟩) m m] _ HM.out.cell Try.underlying26 rfl (by kernel_rfl)
              have NV : Has V 0 (nums .i64 GV (n * 3)) wr := by have := HV.out.has; rwa [uptoG_all] at this
              have NU : Has U 0 (nums .i64 GU (n * 2)) wr := by have := HU.out.has; rwa [uptoG_all] at this
              have NT : Has T 0 (nums .i64 GR (m * 3)) wr := by have := HT.out.has; rwa [uptoG_all] at this
              have RR : Rd wr K D F N TT (erN N TT) := by rw [ET.out]; exact HR.out
              exact bodyPost_ret (v := .agg ([.slice (some ⟨V, 0, none⟩) n n, .slice (some ⟨U, 0, none⟩) n n, .slice (some ⟨T, 0, none⟩) m m] : List Value).toArray) (res_cell Try.results26 rfl hL) rfl ⟨⟨V, U, T, rfl, ⟨VW.out, UW.out, TW.out⟩, NV, NU, NT⟩, RR, HB.out⟩
end Go.Proofs.Ytnopcgkhoennfaa

/- SP -/
namespace Go.Proofs.Ytnopcgkhoennfaa
set_option linter.unusedVariables false
set_option maxRecDepth 2000
set_option linter.unusedSimpArgs false
open Go.RowKit
attribute [local go_sem] setCell_self
/-- the error that Decode tells -/
def decE (F : Nat → Int) (N : Nat) : Int := if N < decT F N then 4 else if decT F N < N then 5 else chkF (dcN F N 0) (dcN F N 0) (dcN F N 1) (decV F N) (decU F N) (decR F N)
/-- the mesh that Decode tells -/
structure DecM (F : Nat → Int) (N : Nat) (M : Msh) : Prop where
  yes : decE F N = 0 → M.nv = dcN F N 0 ∧ M.nu = dcN F N 0 ∧ M.nt = dcN F N 1 ∧ M.V = decV F N ∧ M.U = decU F N ∧ M.R = decR F N
  no : decE F N ≠ 0 → M.nv = 0 ∧ M.nu = 0 ∧ M.nt = 0
theorem dec_end (N T : Nat) : endE N T (erN N T) = if N < T then 4 else if T < N then 5 else 0 := by
  unfold endE erN
  by_cases h : T ≤ N
  · rw [if_pos h, if_neg (by decide), if_neg (show ¬N < T by omega)]
  · rw [if_neg h, if_pos (by decide), if_pos (show N < T by omega)]
theorem mesh_has {n m V U T : Nat} {GV GU GR : Nat → Int} {w : World} (hn : n ≤ 255) (hm : m ≤ 255) (h1 : Has V 0 (nums .i64 GV (n * 3)) w) (h2 : Has U 0 (nums .i64 GU (n * 2)) w) (h3 : Has T 0 (nums .i64 GR (m * 3)) w) : MeshAt ⟨some ⟨V, 0, none⟩, n, n, GV, some ⟨U, 0, none⟩, n, n, GU, some ⟨T, 0, none⟩, m, m, GR⟩ w := ⟨.inr ⟨V, 0, rfl, h1⟩, .inr ⟨U, 0, rfl, h2⟩, .inr ⟨T, 0, rfl, h3⟩, Nat.le_refl _, Nat.le_refl _, Nat.le_refl _, by show n ≤ _; omega, by show n ≤ _; omega, by show m ≤ _; omega⟩
def nilM : Msh := ⟨none, 0, 0, fun _ => 0, none, 0, 0, fun _ => 0, none, 0, 0, fun _ => 0⟩
theorem nilM_at (w : World) : MeshAt nilM w := ⟨.inl rfl, .inl rfl, .inl rfl, by decide, by decide, by decide, by decide, by decide, by decide⟩
theorem nilM_dec {F : Nat → Int} {N : Nat} (h : decE F N ≠ 0) : DecM F N nilM := ⟨fun e => absurd e h, fun _ => ⟨rfl, rfl, rfl⟩⟩
set_option maxHeartbeats 8000000 in
theorem Decode_any (F : Nat → Int) (q : Option Addr) (N c : Nat) (hF : ∀ j, j < N → inB (F j)) (hN : N ≤ 100000) (w : World) (hq : Byt w q N F) :
    Calls Try.prog 15 #[.slice q N c] w fun e w' => (∃ M, e = .returned (.tuple #[.agg #[.slice M.qv M.nv M.cv, .slice M.qu M.nu M.cu, .slice M.qt M.nt M.ct], .int .i64 (decE F N)]) ∧ MeshAt M w' ∧ DecM F N M) ∧ Below w.heap.size w w' := by
  have HQ := Lib.hid hq
  have NW := Lib.hid (fun w hq => New_any q N c F (by omega) w hq)
  have MN := Lib.hid (fun K D w h hd => Mesh_any K D N F hF w h hd)
  have NO := Lib.hid (@nilM_dec F N)
  have DE : Hid (decE F N = if N < decT F N then 4 else if decT F N < N then 5 else chkF (dcN F N 0) (dcN F N 0) (dcN F N 1) (decV F N) (decU F N) (decR F N)) := Lib.hid rfl
  have MK : Hid (∀ M : Msh, M.nv = dcN F N 0 → M.nu = dcN F N 0 → M.nt = dcN F N 1 → M.V = decV F N → M.U = decU F N → M.R = decR F N → decE F N = 0 → DecM F N M) := Lib.hid (fun M a b c d e f h => ⟨fun _ => ⟨a, b, c, d, e, f⟩, fun hn => absurd h hn⟩)
  have NB := Lib.hid (dcN_val hF 0).2; have MB := Lib.hid (dcN_val hF 1).2
  obtain ⟨z, ez⟩ : ∃ z, decE F N = z := ⟨_, rfl⟩
  rw [ez] at DE MK NO ⊢
  generalize DecM F N = DM at *
  generalize decT F N = T at *
  generalize dcN F N 0 = n at *
  generalize dcN F N 1 = m at *
  generalize decV F N = GV at *
  generalize decU F N = GU at *
  generalize decR F N = GR at *
  obtain ⟨e1, hee⟩ : ∃ e, (if N < T then (4 : Int) else if T < N then 5 else 0) = e := ⟨_, rfl⟩
  have EE := Lib.hid hee
  clear hF hN hq ez
  by_cases h1 : e1 = 0
  · subst h1
    have ec : z = chkF n n m GV GU GR := by
      have h := DE.out
      by_cases a : N < T
      · rw [if_pos a] at hee; omega
      · rw [if_neg a] at h hee
        by_cases b : T < N
        · rw [if_pos b] at hee; omega
        · rw [if_neg b] at h; exact h
    have EC := Lib.hid ec
    clear DE hee ec
    go_enter Try.func15, Try.ntmps15
    go_upto_region 1 with fail
    obtain ⟨W0, hW⟩ : ∃ W0, W0 = (w.alloc (.cells #[.slice none 0 0, .slice none 0 0, .slice none 0 0] 26)) := ⟨_, rfl⟩
    have hB0 : Below w.heap.size w W0 := hW ▸ (Below.al (Below.refl _ _))
    have HR : Hid (Own w.heap.size ([.slice none 0 0, .slice none 0 0, .slice none 0 0]) W0) := Lib.hid (hW ▸ (show Own w.heap.size ([.slice none 0 0, .slice none 0 0, .slice none 0 0]) (w.alloc (.cells #[.slice none 0 0, .slice none 0 0, .slice none 0 0] 26)) from Own.newAt (by simp)))
    rw [← hW]
    clear hW
    obtain ⟨R, eR⟩ : ∃ X, X = w.heap.size := ⟨_, rfl⟩
    rw [← eR] at HR ⊢
    have Rw : w.heap.size ≤ R := by omega
    clear eR
    have HQ0 := Lib.hid (HQ.out.later hB0)
    clear HQ
    go_wp2_with (fail)
    go_at_call 25
    refine (NW.out _ HQ0.out).mono ?_
    rintro e w1 ⟨K, D, rfl, hKw, hDw, hDl, hrd, hb⟩
    have HR1 := Lib.hid (HR.out.later hb)
    have nRK : R ≠ K := by have := HR.out.lt; omega
    have hB1 := Below.go hB0 hb
    have KW : w.heap.size ≤ K := by have := hB0.size; omega
    have HRD := Lib.hid hrd
    have HDl := Lib.hid hDl
    clear hb hB0 HQ0 HR NW hrd hKw hDw hDl
    go_upto_region 2 with fail
    obtain ⟨w2, hW⟩ : ∃ w2, w2 = (w1.alloc (.cells #[.pointer (some ⟨K, 0, none⟩)] 72)) := ⟨_, rfl⟩
    have hBx : Below w1.heap.size w1 w2 := hW ▸ (Below.al (Below.refl _ _))
    have HP : Hid (Own w1.heap.size ([.pointer (some ⟨K, 0, none⟩)]) w2) := Lib.hid (hW ▸ (show Own w1.heap.size ([.pointer (some ⟨K, 0, none⟩)]) (w1.alloc (.cells #[.pointer (some ⟨K, 0, none⟩)] 72)) from Own.newAt (by simp)))
    rw [← hW]
    clear hW
    obtain ⟨P, eP⟩ : ∃ X, X = w1.heap.size := ⟨_, rfl⟩
    rw [← eP] at HP ⊢
    have Pw : w1.heap.size ≤ P := by omega
    clear eP
    have nPK : P ≠ K := by have := HRD.out.lt; omega
    have HR2 := Lib.hid (HR1.out.later hBx); have HRD2 := Lib.hid (HRD.out.later hBx); have hD2 := Nat.lt_of_lt_of_le HDl.out hBx.size
    have hB2 := Below.go hB1 hBx
    clear HR1 HRD HDl hBx hB1 Pw
    have oP := HP.out
    have P0 := oP.at 0 _ rfl
    have Pl := oP.lt
    clear oP
    go_wp2_with (fail)
    go_at_call 26
    refine (MN.out K D _ HRD2.out hD2).mono ?_
    rintro e w3 ⟨⟨V, U, T, rfl, ⟨gv, gu, gt⟩, m1, m2, m3⟩, h1, h2⟩
    have nVR : V ≠ R := by have := HR2.out.lt; omega
    have nUR : U ≠ R := by have := HR2.out.lt; omega
    have nTR : T ≠ R := by have := HR2.out.lt; omega
    have HV3 := Lib.hid m1; have HU3 := Lib.hid m2; have HT3 := Lib.hid m3
    have HRD3 := Lib.hid h1
    have HR3 := Lib.hid (HR2.out.but h2 nRK); have HP3 := Lib.hid (HP.out.but h2 nPK)
    have hB3 := hB2.trans (h2.below.mono KW)
    clear h1 h2 m1 m2 m3 gv gu gt HRD2 HR2 HP hB2 hD2 P0 Pl MN
    go_upto_region 3 with fail
    obtain ⟨w4, hW⟩ : ∃ w4, w4 = (w3.alloc (.cells #[.slice (some ⟨V, 0, none⟩) n n, .slice (some ⟨U, 0, none⟩) n n, .slice (some ⟨T, 0, none⟩) m m] 26)) := ⟨_, rfl⟩
    have hBx : Below w3.heap.size w3 w4 := hW ▸ (Below.al (Below.refl _ _))
    have HX : Hid (Own w3.heap.size ([.slice (some ⟨V, 0, none⟩) n n, .slice (some ⟨U, 0, none⟩) n n, .slice (some ⟨T, 0, none⟩) m m]) w4) := Lib.hid (hW ▸ (show Own w3.heap.size ([.slice (some ⟨V, 0, none⟩) n n, .slice (some ⟨U, 0, none⟩) n n, .slice (some ⟨T, 0, none⟩) m m]) (w3.alloc (.cells #[.slice (some ⟨V, 0, none⟩) n n, .slice (some ⟨U, 0, none⟩) n n, .slice (some ⟨T, 0, none⟩) m m] 26)) from Own.newAt (by simp)))
    rw [← hW]
    clear hW
    obtain ⟨X, eX⟩ : ∃ X, X = w3.heap.size := ⟨_, rfl⟩
    rw [← eX] at HX ⊢
    have Xw : w3.heap.size ≤ X := by omega
    clear eX
    have HR4 := Lib.hid (HR3.out.later hBx); have HP4 := Lib.hid (HP3.out.later hBx); have HV4 := Lib.hid (HV3.out.later hBx); have HU4 := Lib.hid (HU3.out.later hBx); have HT4 := Lib.hid (HT3.out.later hBx)
    have EN := Lib.hid (End_any (HRD3.out.later hBx))
    have HB4 := Lib.hid (Below.go hB3 hBx)
    rw [dec_end, EE.out] at EN
    clear HR3 HP3 HV3 HU3 HT3 HRD3 hB3 hBx Xw
    have oP := HP4.out
    have P0 := oP.at 0 _ rfl
    have Pl := oP.lt
    clear oP
    go_wp2_with (fail)
    go_at_call 27
    refine EN.out.mono ?_
    rintro e y5 ⟨rfl, hw⟩
    subst hw
    clear EN P0 Pl HP4
    have oX := HX.out
    have X0 := oX.at 0 _ rfl
    have X1 := oX.at 1 _ rfl
    have X2 := oX.at 2 _ rfl
    have Xl := oX.lt
    clear oX
    go_wp2_with (fail)
    go_at_call 11
    refine (Check_any ⟨some ⟨V, 0, none⟩, n, n, GV, some ⟨U, 0, none⟩, n, n, GU, some ⟨T, 0, none⟩, m, m, GR⟩ _ (mesh_has NB.out MB.out HV4.out HU4.out HT4.out)).mono ?_
    rintro e w5 ⟨rfl, hb⟩
    rw [show chkM ⟨some ⟨V, 0, none⟩, n, n, GV, some ⟨U, 0, none⟩, n, n, GU, some ⟨T, 0, none⟩, m, m, GR⟩ = z from EC.out.symm]
    have HR5 := Lib.hid (HR4.out.later hb); have HX5 := Lib.hid (HX.out.later hb); have HV5 := Lib.hid (HV4.out.later hb); have HU5 := Lib.hid (HU4.out.later hb); have HT5 := Lib.hid (HT4.out.later hb); have HB5 := Lib.hid (Below.go HB4.out hb)
    clear hb HR4 HX HV4 HU4 HT4 HB4 X0 X1 X2 Xl EC EE
    by_cases hz : z = 0
    · subst hz
      have HD := Lib.hid (MK.out ⟨some ⟨V, 0, none⟩, n, n, GV, some ⟨U, 0, none⟩, n, n, GU, some ⟨T, 0, none⟩, m, m, GR⟩ rfl rfl rfl rfl rfl rfl rfl)
      clear MK NO
      go_upto_region 9 with fail
      have oX := HX5.out
      have X0 := oX.at 0 _ rfl
      have X1 := oX.at 1 _ rfl
      have X2 := oX.at 2 _ rfl
      have Xl := oX.lt
      clear oX
      have oR := HR5.out
      have R0 := oR.at 0 _ rfl
      have Rf0 := oR.ok 0 (by simp)
      have R1 := oR.at 1 _ rfl
      have Rf1 := oR.ok 1 (by simp)
      have R2 := oR.at 2 _ rfl
      have Rf2 := oR.ok 2 (by simp)
      have Rl := oR.lt
      clear oR
      go_wp2_with (fail)
      change bodyPost _ _ _ _ _ (w5.setCells R 0 [.slice (some ⟨V, 0, none⟩) n n, .slice (some ⟨U, 0, none⟩) n n, .slice (some ⟨T, 0, none⟩) m m])
      have HR9 : Own R [.slice (some ⟨V, 0, none⟩) n n, .slice (some ⟨U, 0, none⟩) n n, .slice (some ⟨T, 0, none⟩) m m] (w5.setCells R 0 [.slice (some ⟨V, 0, none⟩) n n, .slice (some ⟨U, 0, none⟩) n n, .slice (some ⟨T, 0, none⟩) m m]) := Own.store HR5.out rfl
      have HB9 : Below w.heap.size w (w5.setCells R 0 [.slice (some ⟨V, 0, none⟩) n n, .slice (some ⟨U, 0, none⟩) n n, .slice (some ⟨T, 0, none⟩) m m]) := Below.setCells HB5.out Rw _ _
      have HM9 : MeshAt ⟨some ⟨V, 0, none⟩, n, n, GV, some ⟨U, 0, none⟩, n, n, GU, some ⟨T, 0, none⟩, m, m, GR⟩ (w5.setCells R 0 [.slice (some ⟨V, 0, none⟩) n n, .slice (some ⟨U, 0, none⟩) n n, .slice (some ⟨T, 0, none⟩) m m]) := mesh_has NB.out MB.out (HV5.out.far nVR) (HU5.out.far nUR) (HT5.out.far nTR)
      have hL := run_loadVar_mid (P := Try.prog) _ R 0 26 [.slice (some ⟨V, 0, none⟩) n n, .slice (some ⟨U, 0, none⟩) n n, .slice (some ⟨T, 0, none⟩) m m] _ HR9.cell Try.underlying26 rfl (by kernel_rfl)
      exact bodyPost_ret (v := .tuple #[.agg ([.slice (some ⟨V, 0, none⟩) n n, .slice (some ⟨U, 0, none⟩) n n, .slice (some ⟨T, 0, none⟩) m m] : List Value).toArray, .int .i64 0]) (res_two Try.results15 rfl hL rfl) rfl ⟨⟨_, rfl, HM9, HD.out⟩, HB9⟩
    · have hd : (z != 0) = true := by simpa using hz
      have HD := Lib.hid (NO.out hz)
      clear MK NO HX5
      have oR := HR5.out
      have R0 := oR.at 0 _ rfl
      have Rf0 := oR.ok 0 (by simp)
      have R1 := oR.at 1 _ rfl
      have Rf1 := oR.ok 1 (by simp)
      have R2 := oR.at 2 _ rfl
      have Rf2 := oR.ok 2 (by simp)
      have Rl := oR.lt
      clear oR
      go_wp2_with (fail)
      have hL := run_loadVar_mid (P := Try.prog) _ R 0 26 [.slice none 0 0, .slice none 0 0, .slice none 0 0] _ HR5.out.cell Try.underlying26 rfl (by kernel_rfl)
      exact bodyPost_ret (v := .tuple #[.agg ([.slice none 0 0, .slice none 0 0, .slice none 0 0] : List Value).toArray, .int .i64 z]) (res_two Try.results15 rfl hL rfl) rfl ⟨⟨nilM, rfl, nilM_at _, HD.out⟩, HB5.out⟩
  · have ez : z = e1 := by
      have h := DE.out
      by_cases a : N < T
      · rw [if_pos a] at hee h; omega
      · rw [if_neg a] at h hee
        by_cases b : T < N
        · rw [if_pos b] at hee h; omega
        · rw [if_neg b] at hee; exact absurd hee.symm h1
    subst ez
    have hd : (z != 0) = true := by simpa using h1
    have HD := Lib.hid (NO.out h1)
    clear MK NO DE hee h1
    go_enter Try.func15, Try.ntmps15
    go_upto_region 1 with fail
    obtain ⟨W0, hW⟩ : ∃ W0, W0 = (w.alloc (.cells #[.slice none 0 0, .slice none 0 0, .slice none 0 0] 26)) := ⟨_, rfl⟩
    have hB0 : Below w.heap.size w W0 := hW ▸ (Below.al (Below.refl _ _))
    have HR : Hid (Own w.heap.size ([.slice none 0 0, .slice none 0 0, .slice none 0 0]) W0) := Lib.hid (hW ▸ (show Own w.heap.size ([.slice none 0 0, .slice none 0 0, .slice none 0 0]) (w.alloc (.cells #[.slice none 0 0, .slice none 0 0, .slice none 0 0] 26)) from Own.newAt (by simp)))
    rw [← hW]
    clear hW
    obtain ⟨R, eR⟩ : ∃ X, X = w.heap.size := ⟨_, rfl⟩
    rw [← eR] at HR ⊢
    have Rw : w.heap.size ≤ R := by omega
    clear eR
    have HQ0 := Lib.hid (HQ.out.later hB0)
    clear HQ
    go_wp2_with (fail)
    go_at_call 25
    refine (NW.out _ HQ0.out).mono ?_
    rintro e w1 ⟨K, D, rfl, hKw, hDw, hDl, hrd, hb⟩
    have HR1 := Lib.hid (HR.out.later hb)
    have nRK : R ≠ K := by have := HR.out.lt; omega
    have hB1 := Below.go hB0 hb
    have KW : w.heap.size ≤ K := by have := hB0.size; omega
    have HRD := Lib.hid hrd
    have HDl := Lib.hid hDl
    clear hb hB0 HQ0 HR NW hrd hKw hDw hDl
    go_upto_region 2 with fail
    obtain ⟨w2, hW⟩ : ∃ w2, w2 = (w1.alloc (.cells #[.pointer (some ⟨K, 0, none⟩)] 72)) := ⟨_, rfl⟩
    have hBx : Below w1.heap.size w1 w2 := hW ▸ (Below.al (Below.refl _ _))
    have HP : Hid (Own w1.heap.size ([.pointer (some ⟨K, 0, none⟩)]) w2) := Lib.hid (hW ▸ (show Own w1.heap.size ([.pointer (some ⟨K, 0, none⟩)]) (w1.alloc (.cells #[.pointer (some ⟨K, 0, none⟩)] 72)) from Own.newAt (by simp)))
    rw [← hW]
    clear hW
    obtain ⟨P, eP⟩ : ∃ X, X = w1.heap.size := ⟨_, rfl⟩
    rw [← eP] at HP ⊢
    have Pw : w1.heap.size ≤ P := by omega
    clear eP
    have nPK : P ≠ K := by have := HRD.out.lt; omega
    have HR2 := Lib.hid (HR1.out.later hBx); have HRD2 := Lib.hid (HRD.out.later hBx); have hD2 := Nat.lt_of_lt_of_le HDl.out hBx.size
    have hB2 := Below.go hB1 hBx
    clear HR1 HRD HDl hBx hB1 Pw
    have oP := HP.out
    have P0 := oP.at 0 _ rfl
    have Pl := oP.lt
    clear oP
    go_wp2_with (fail)
    go_at_call 26
    refine (MN.out K D _ HRD2.out hD2).mono ?_
    rintro e w3 ⟨⟨V, U, T, rfl, ⟨gv, gu, gt⟩, m1, m2, m3⟩, h1, h2⟩
    have nVR : V ≠ R := by have := HR2.out.lt; omega
    have nUR : U ≠ R := by have := HR2.out.lt; omega
    have nTR : T ≠ R := by have := HR2.out.lt; omega
    have HV3 := Lib.hid m1; have HU3 := Lib.hid m2; have HT3 := Lib.hid m3
    have HRD3 := Lib.hid h1
    have HR3 := Lib.hid (HR2.out.but h2 nRK); have HP3 := Lib.hid (HP.out.but h2 nPK)
    have hB3 := hB2.trans (h2.below.mono KW)
    clear h1 h2 m1 m2 m3 gv gu gt HRD2 HR2 HP hB2 hD2 P0 Pl MN
    go_upto_region 3 with fail
    obtain ⟨w4, hW⟩ : ∃ w4, w4 = (w3.alloc (.cells #[.slice (some ⟨V, 0, none⟩) n n, .slice (some ⟨U, 0, none⟩) n n, .slice (some ⟨T, 0, none⟩) m m] 26)) := ⟨_, rfl⟩
    have hBx : Below w3.heap.size w3 w4 := hW ▸ (Below.al (Below.refl _ _))
    have HX : Hid (Own w3.heap.size ([.slice (some ⟨V, 0, none⟩) n n, .slice (some ⟨U, 0, none⟩) n n, .slice (some ⟨T, 0, none⟩) m m]) w4) := Lib.hid (hW ▸ (show Own w3.heap.size ([.slice (some ⟨V, 0, none⟩) n n, .slice (some ⟨U, 0, none⟩) n n, .slice (some ⟨T, 0, none⟩) m m]) (w3.alloc (.cells #[.slice (some ⟨V, 0, none⟩) n n, .slice (some ⟨U, 0, none⟩) n n, .slice (some ⟨T, 0, none⟩) m m] 26)) from Own.newAt (by simp)))
    rw [← hW]
    clear hW
    obtain ⟨X, eX⟩ : ∃ X, X = w3.heap.size := ⟨_, rfl⟩
    rw [← eX] at HX ⊢
    have Xw : w3.heap.size ≤ X := by omega
    clear eX
    have HR4 := Lib.hid (HR3.out.later hBx); have HP4 := Lib.hid (HP3.out.later hBx); have HV4 := Lib.hid (HV3.out.later hBx); have HU4 := Lib.hid (HU3.out.later hBx); have HT4 := Lib.hid (HT3.out.later hBx)
    have EN := Lib.hid (End_any (HRD3.out.later hBx))
    have HB4 := Lib.hid (Below.go hB3 hBx)
    rw [dec_end, EE.out] at EN
    clear HR3 HP3 HV3 HU3 HT3 HRD3 hB3 hBx Xw
    have oP := HP4.out
    have P0 := oP.at 0 _ rfl
    have Pl := oP.lt
    clear oP
    go_wp2_with (fail)
    go_at_call 27
    refine EN.out.mono ?_
    rintro e y5 ⟨rfl, hw⟩
    subst hw
    clear EN P0 Pl HP4
    have oR := HR4.out
    have R0 := oR.at 0 _ rfl
    have Rf0 := oR.ok 0 (by simp)
    have R1 := oR.at 1 _ rfl
    have Rf1 := oR.ok 1 (by simp)
    have R2 := oR.at 2 _ rfl
    have Rf2 := oR.ok 2 (by simp)
    have Rl := oR.lt
    clear oR
    go_wp2_with (fail)
    have hL := run_loadVar_mid (P := Try.prog) _ R 0 26 [.slice none 0 0, .slice none 0 0, .slice none 0 0] _ HR4.out.cell Try.underlying26 rfl (by kernel_rfl)
    exact bodyPost_ret (v := .tuple #[.agg ([.slice none 0 0, .slice none 0 0, .slice none 0 0] : List Value).toArray, .int .i64 z]) (res_two Try.results15 rfl hL rfl) rfl ⟨⟨nilM, rfl, nilM_at _, HD.out⟩, HB4.out⟩
end Go.Proofs.Ytnopcgkhoennfaa

/- SQ -/
namespace Go.Proofs.Ytnopcgkhoennfaa
set_option linter.unusedVariables false
set_option maxRecDepth 2000
set_option linter.unusedSimpArgs false
open Go.RowKit
attribute [local go_sem] setCell_self
theorem erN_0 (N : Nat) : erN N 0 = 0 := if_pos (Nat.zero_le _)
theorem Own.under {B b : Nat} {cs : List Value} {W W' : World} (h : Own b cs W) (hb : Below B W W') (hB : b < B) : Own b cs W' where
  lt := Nat.lt_of_lt_of_le h.lt hb.size
  cell := fun j v hv => by rw [hb.cell (p := ⟨b, 0 + j, none⟩) hB]; exact h.cell j v hv
  free := fun j hj => by rw [hb.cell (p := ⟨b, 0 + j, none⟩) hB, hb.frozen (p := ⟨b, 0 + j, none⟩) hB]; exact h.free j hj
theorem RRn.under {B S D N t : Nat} {F : Nat → Int} {w w' : World} (h : RRn w S D F N t) (hb : Below B w w') (hS : S < B) (hD : D < B) : RRn w' S D F N t := by
  obtain ⟨a, ⟨⟨p, c, h1, h2, h3, h4⟩, hle⟩, ha⟩ := h
  refine ⟨a, ⟨⟨p, c, h1.under hb hS, ?_, h3, h4⟩, hle⟩, ha⟩
  rcases h2 with h2 | ⟨off, e1, e2, e3⟩
  · exact .inl h2
  · exact .inr ⟨off, e1, e2, e3.below hb hD⟩
theorem NmS.under {B s n : Nat} {q : Option Addr} {f : Nat → Int} {w w' : World} (h : NmS w s q n f) (hb : Below B w w') (hq : ∀ b o, q = some ⟨b, o, none⟩ → b < B) : NmS w' s q n f := by
  rcases h with h | ⟨b, off, h1, h2⟩
  · exact .inl h
  · exact .inr ⟨b, off, h1, h2.below hb (hq b off h1)⟩
theorem NmS.but {s n K : Nat} {q : Option Addr} {f : Nat → Int} {w w' : World} (h : NmS w s q n f) (hb : But K w w') (hq : ∀ b o, q = some ⟨b, o, none⟩ → b ≠ K) : NmS w' s q n f := by
  rcases h with h | ⟨b, off, h1, h2⟩
  · exact .inl h
  · exact .inr ⟨b, off, h1, h2.but hb (hq b off h1)⟩
/-- a row of the call's own, as a slice of n elements -/
theorem nms_row {w : World} {base s n m c : Nat} {e : TypeId} {q : Option Addr} {f : Nat → Int} (h : w.ownsRow base e s (.slice q m c) n (nums .i64 f (n * s))) : m = n ∧ NmS w s q n f ∧ m ≤ c ∧ c ≤ 9223372036854775807 ∧ (∀ b o, q = some ⟨b, o, none⟩ → base ≤ b ∧ b < w.heap.size) := by
  rcases h.2 with ⟨h0, h1⟩ | ⟨g, cap, cur, hv, hg, hh, h1, h2, h3, h4⟩
  · cases h0
    exact ⟨h1.symm, .inl h1, Nat.le_refl _, by decide, fun b o e => by cases e⟩
  · cases hv
    refine ⟨rfl, .inr ⟨g, 0, rfl, (row_has h).1⟩, h1, by unfold maxLen at h2; omega, fun b o e => by cases e; exact ⟨hg, (Array.getElem?_eq_some_iff.1 hh).1⟩⟩
set_option maxHeartbeats 4000000 in
theorem RRead_any {S D N t : Nat} {F : Nat → Int} {w : World} (hF : ∀ j, j < N → inB (F j)) (h : RRn w S D F N t) (hD : D = S ∨ D < w.heap.size) :
    Calls Try.prog 29 #[.pointer (some ⟨S, 0, none⟩)] w fun e w' => e = .returned (.agg #[.int .i64 (sgnN F N t), .int .i64 (sgnN F N (t + 2)), .int .i64 (sgnN F N (t + 4))]) ∧ RRn w' S D F N (t + 6) ∧ But S w w' := by
  have Sl := h.lt
  have HR0 := Lib.hid h
  have C0 := Lib.hid (fun w h => RInt_nx (S := S) (D := D) (N := N) (t := t) (F := F) (w := w) (t + 2) rfl hF h)
  have C1 := Lib.hid (fun w h => RInt_nx (S := S) (D := D) (N := N) (t := t + 2) (F := F) (w := w) (t + 4) rfl hF h)
  have C2 := Lib.hid (fun w h => RInt_nx (S := S) (D := D) (N := N) (t := t + 4) (F := F) (w := w) (t + 6) rfl hF h)
  clear h hF
  generalize sgnN F N t = x at *
  generalize sgnN F N (t + 2) = y at *
  generalize sgnN F N (t + 4) = z at *
  go_enter Try.func29, Try.ntmps29
  go_upto_region 1 with fail
  obtain ⟨W0, hW⟩ : ∃ W0, W0 = (w.alloc (.cells #[.int .i64 0, .int .i64 0, .int .i64 0] 46)) := ⟨_, rfl⟩
  have hB0 : Below w.heap.size w W0 := hW ▸ (Below.al (Below.refl _ _))
  have HP : Hid (Own w.heap.size [.int .i64 0, .int .i64 0, .int .i64 0] W0) := Lib.hid (hW ▸ (Own.newAt (by simp)))
  rw [← hW]
  clear hW
  obtain ⟨P, eP⟩ : ∃ X, X = w.heap.size := ⟨_, rfl⟩
  rw [← eP] at HP ⊢
  have Pw : w.heap.size ≤ P := by omega
  clear eP
  have nPS : P ≠ S := by omega
  have nDP : D ≠ P := by omega
  have HR := Lib.hid (HR0.out.later hB0)
  have HB := Lib.hid (But.of hB0 Sl)
  clear HR0 hB0 hD
  go_wp2_with (fail)
  go_at_call 54
  refine (C0.out _ HR.out).mono ?_
  rintro e y1 ⟨rfl, h1, h2⟩
  have HP_ := Lib.hid (HP.out.but h2 nPS); have HB_ := Lib.hid (HB.out.trans h2); have HR_ := Lib.hid h1
  clear h1 h2 HP HB HR C0
  have HP := HP_; have HB := HB_; have HR := HR_
  clear HP_ HB_ HR_
  go_wp2_with (fail)
  go_at_call 54
  refine (C1.out _ HR.out).mono ?_
  rintro e y2 ⟨rfl, h1, h2⟩
  have HP_ := Lib.hid (HP.out.but h2 nPS); have HB_ := Lib.hid (HB.out.trans h2); have HR_ := Lib.hid h1
  clear h1 h2 HP HB HR C1
  have HP := HP_; have HB := HB_; have HR := HR_
  clear HP_ HB_ HR_
  go_wp2_with (fail)
  go_at_call 54
  refine (C2.out _ HR.out).mono ?_
  rintro e y3 ⟨rfl, h1, h2⟩
  have HP_ := Lib.hid (HP.out.but h2 nPS); have HB_ := Lib.hid (HB.out.trans h2); have HR_ := Lib.hid h1
  clear h1 h2 HP HB HR C2
  have HP := HP_; have HB := HB_; have HR := HR_
  clear HP_ HB_ HR_
  have oP := HP.out
  have P0 := oP.at 0 _ rfl
  have Pf0 := oP.ok 0 (by simp)
  have P1 := oP.at 1 _ rfl
  have Pf1 := oP.ok 1 (by simp)
  have P2 := oP.at 2 _ rfl
  have Pf2 := oP.ok 2 (by simp)
  have Pl := oP.lt
  clear oP
  go_wp2_with (fail)
  change bodyPost _ _ _ _ _ (y3.setCells P 0 [.int .i64 x, .int .i64 y, .int .i64 z])
  have HP9 : Own P [.int .i64 x, .int .i64 y, .int .i64 z] (y3.setCells P 0 [.int .i64 x, .int .i64 y, .int .i64 z]) := Own.store HP.out rfl
  have HB9 : But S w (y3.setCells P 0 [.int .i64 x, .int .i64 y, .int .i64 z]) := HB.out.news Pw Sl
  have hbm : But P y3 (y3.setCells P 0 [.int .i64 x, .int .i64 y, .int .i64 z]) := But.store
  have HR9 : RRn (y3.setCells P 0 [.int .i64 x, .int .i64 y, .int .i64 z]) S D F N (t + 6) := HR.out.far hbm (Ne.symm nPS) nDP
  have hL := run_loadVar_mid (P := Try.prog) _ P 0 46 [.int .i64 x, .int .i64 y, .int .i64 z] _ HP9.cell Try.underlying46 rfl (by kernel_rfl)
  exact bodyPost_ret (v := .agg ([.int .i64 x, .int .i64 y, .int .i64 z] : List Value).toArray) (res_cell Try.results29 rfl hL) rfl ⟨rfl, HR9, HB9⟩
theorem RREnd_any {S D N T : Nat} {F : Nat → Int} {w : World} (h : RRn w S D F N T) : Calls Try.prog 30 #[.pointer (some ⟨S, 0, none⟩)] w fun e w' => e = .returned (.int .i64 (endE N T (erN N T))) ∧ Below w.heap.size w w' := by
  obtain ⟨a, hr, ha⟩ := h
  refine (REnd_any hr).mono ?_
  rintro e w' ⟨he, m, rfl⟩
  refine ⟨?_, below_drewN (Below.refl _ _) _⟩
  by_cases hT : T ≤ N
  · rw [ha hT] at he; exact he
  · rw [he, show erN N T = 4 from if_neg hT]
    rfl
theorem infoPt : (Try.prog.info? 46).map (fun i => (i.zero, i.size, i.bytes)) = some (some (.agg #[.int .i64 0, .int .i64 0, .int .i64 0]), 3, 24) := by kernel_rfl
theorem infoU2 : (Try.prog.info? 48).map (fun i => (i.zero, i.size, i.bytes)) = some (some (.agg #[.int .i64 0, .int .i64 0]), 2, 16) := by kernel_rfl
theorem infoT3 : (Try.prog.info? 52).map (fun i => (i.zero, i.size, i.bytes)) = some (some (.agg #[.int .i64 0, .int .i64 0, .int .i64 0]), 3, 24) := by kernel_rfl
theorem info_parts {t s b : Nat} {z : Value} (h : (Try.prog.info? t).map (fun i => (i.zero, i.size, i.bytes)) = some (some z, s, b)) : ∃ i, Try.prog.info? t = some i ∧ i.zero = some z ∧ i.size = s ∧ i.bytes = b := by
  obtain ⟨i, hi, h⟩ := Option.map_eq_some_iff.1 h
  simp only [Prod.mk.injEq] at h
  exact ⟨i, hi, h.1, h.2.1, h.2.2⟩
set_option maxHeartbeats 16000000 in
theorem RDecode_any (F : Nat → Int) (q : Option Addr) (N c : Nat) (hF : ∀ j, j < N → inB (F j)) (hNc : N ≤ c) (hcx : c ≤ 9223372036854775807) (hN : N ≤ 100000) (w : World) (hq : Byt w q N F) :
    Calls Try.prog 16 #[.slice q N c] w fun e w' => (∃ M, e = .returned (.tuple #[.agg #[.slice M.qv M.nv M.cv, .slice M.qu M.nu M.cu, .slice M.qt M.nt M.ct], .int .i64 (decE F N)]) ∧ MeshAt M w' ∧ DecM F N M) ∧ Below w.heap.size w w' := by
  have HQ := Lib.hid hq
  have HQL : Hid (∀ b off, N ≠ 0 → q = some ⟨b, off, none⟩ → b < w.heap.size) := Lib.hid (fun b off hn e => by
    rcases hq with h | ⟨b2, o2, e1, e2⟩
    · exact absurd h hn
    · rw [e] at e1; cases e1; exact e2.lt)
  have S0 := Lib.hid (fun S D w h => RNum_nx (S := S) (D := D) (N := N) (t := 0) (F := F) (w := w) 1 1 1 rfl rfl (by decide) (by decide) hF h)
  have S1 := Lib.hid (fun S D w h => RNum_nx (S := S) (D := D) (N := N) (t := 1) (F := F) (w := w) 1 2 1 rfl rfl (by decide) (by decide) hF h)
  have c0 := dcN_val hF 0; have c1 := dcN_val hF 1
  rw [c0.1] at S0
  rw [c1.1] at S1
  have SV := Lib.hid (fun t S D w h hd => RRead_any (S := S) (D := D) (N := N) (t := t) (F := F) (w := w) hF h hd)
  have SU := Lib.hid (fun t S D w h => RNum_nx (S := S) (D := D) (N := N) (t := t) (F := F) (w := w) 2 (t + 2) 2 rfl rfl (by decide) (by decide) hF h)
  have ST := Lib.hid (fun t S D w h => RNum_nx (S := S) (D := D) (N := N) (t := t) (F := F) (w := w) 1 (t + 1) 1 rfl rfl (by decide) (by decide) hF h)
  have BU := Lib.hid (fun t => show IntKind.i64.wrap (valN F N t 2) = valN F N t 2 from IntWalk.i64_in _ (by have := in_valN hF t 2; have := pw_vals.2.1; omega))
  have BT := Lib.hid (fun t => show IntKind.i64.wrap (valN F N t 1) = valN F N t 1 from IntWalk.i64_in _ (by have := in_valN hF t 1; have := pw_vals.1; omega))
  have EV : Hid (∀ j, decV F N j = sgnN F N (2 + 2 * j)) := Lib.hid fun _ => rfl
  have EU : Hid (∀ j, decU F N j = valN F N (2 + dcN F N 0 * 6 + 2 * j) 2) := Lib.hid fun _ => rfl
  have ER : Hid (∀ j, decR F N j = valN F N (2 + dcN F N 0 * 10 + j) 1) := Lib.hid fun _ => rfl
  have ET : Hid (decT F N = 2 + dcN F N 0 * 10 + dcN F N 1 * 3) := Lib.hid rfl
  have NO := Lib.hid (@nilM_dec F N)
  have DE : Hid (decE F N = if N < decT F N then 4 else if decT F N < N then 5 else chkF (dcN F N 0) (dcN F N 0) (dcN F N 1) (decV F N) (decU F N) (decR F N)) := Lib.hid rfl
  have MK : Hid (∀ M : Msh, M.nv = dcN F N 0 → M.nu = dcN F N 0 → M.nt = dcN F N 1 → M.V = decV F N → M.U = decU F N → M.R = decR F N → decE F N = 0 → DecM F N M) := Lib.hid (fun M a b c d e f h => ⟨fun _ => ⟨a, b, c, d, e, f⟩, fun hn => absurd h hn⟩)
  have NB := Lib.hid c0.2; have MB := Lib.hid c1.2
  have e0 := erN_0 N
  have HNC := Lib.hid hNc; have HCX := Lib.hid hcx
  obtain ⟨z, ez⟩ : ∃ z, decE F N = z := ⟨_, rfl⟩
  rw [ez] at DE MK NO ⊢
  have wn : IntKind.i64.wrap (dcN F N 0 : Int) = (dcN F N 0 : Int) := IntWalk.i64_in _ (by have := NB.out; omega)
  have wm : IntKind.i64.wrap (dcN F N 1 : Int) = (dcN F N 1 : Int) := IntWalk.i64_in _ (by have := MB.out; omega)
  clear c0 c1 ez hF hq hNc hcx hN
  have E0 := Lib.hid e0
  clear e0
  generalize DecM F N = DM at *
  generalize decT F N = TT at *
  generalize dcN F N 0 = n at *
  generalize dcN F N 1 = m at *
  generalize decV F N = GV at *
  generalize decU F N = GU at *
  generalize decR F N = GR at *
  obtain ⟨i1, hi1, hz1, hs1, hb1⟩ := info_parts infoPt
  obtain ⟨i2, hi2, hz2, hs2, hb2⟩ := info_parts infoU2
  obtain ⟨i3, hi3, hz3, hs3, hb3⟩ := info_parts infoT3
  go_enter Try.func16, Try.ntmps16
  go_upto_region 1 with fail
  obtain ⟨W0, hW⟩ : ∃ W0, W0 = (w.alloc (.cells #[.slice none 0 0, .slice none 0 0, .slice none 0 0] 26)) := ⟨_, rfl⟩
  have hB0 : Below w.heap.size w W0 := hW ▸ (Below.al (Below.refl _ _))
  have HR : Hid (Own w.heap.size ([.slice none 0 0, .slice none 0 0, .slice none 0 0]) W0) := Lib.hid (hW ▸ (show Own w.heap.size ([.slice none 0 0, .slice none 0 0, .slice none 0 0]) (w.alloc (.cells #[.slice none 0 0, .slice none 0 0, .slice none 0 0] 26)) from Own.newAt (by simp)))
  rw [← hW]
  clear hW
  obtain ⟨R, eR⟩ : ∃ X, X = w.heap.size := ⟨_, rfl⟩
  rw [← eR] at HR ⊢
  have Rw : w.heap.size ≤ R := by omega
  clear eR
  have HQ0 := Lib.hid (HQ.out.later hB0)
  have HB := Lib.hid hB0
  clear HQ hB0
  go_upto_region 2 with fail
  obtain ⟨w2, hW⟩ : ∃ w2, w2 = (W0.alloc (.cells #[.slice q N c, .int .i64 0, .int .i64 0] 77)) := ⟨_, rfl⟩
  have hBx : Below W0.heap.size W0 w2 := hW ▸ (Below.al (Below.refl _ _))
  have HS : Hid (Own W0.heap.size ([.slice q N c, .int .i64 0, .int .i64 0]) w2) := Lib.hid (hW ▸ (show Own W0.heap.size ([.slice q N c, .int .i64 0, .int .i64 0]) (W0.alloc (.cells #[.slice q N c, .int .i64 0, .int .i64 0] 77)) from Own.newAt (by simp)))
  rw [← hW]
  clear hW
  obtain ⟨S, eS⟩ : ∃ X, X = W0.heap.size := ⟨_, rfl⟩
  rw [← eS] at HS ⊢
  have Sw : W0.heap.size ≤ S := by omega
  clear eS
  have nRS : R ≠ S := by have := HR.out.lt; omega
  have nSR : S ≠ R := Ne.symm nRS
  have RW := Lib.hid Rw; have SW : Hid (w.heap.size ≤ S) := Lib.hid (by have := HB.out.size; omega)
  obtain ⟨D, hD, hbd⟩ : ∃ D, (D = S ∨ D < w.heap.size) ∧ BytD w2 q N F S D := by
    by_cases h0 : N = 0
    · exact ⟨S, .inl rfl, .inl h0⟩
    · obtain ⟨b, off, e1, e2⟩ := HQ0.out.resolve_left h0
      have hb := HQL.out b off h0 e1
      exact ⟨b, .inr hb, .inr ⟨off, e1, by have := SW.out; omega, e2.later hBx⟩⟩
  have RN : Hid (RRn w2 S D F N 0) := Lib.hid ⟨0, ⟨⟨q, c, by rw [E0.out]; exact HS.out, hbd, HNC.out, HCX.out⟩, Nat.zero_le _⟩, fun _ => rfl⟩
  have HDD := Lib.hid hD
  have HR_ := Lib.hid (HR.out.later hBx); have HB_ := Lib.hid (Below.go HB.out hBx)
  clear HR HB HS HQ0 hBx hbd hD Rw Sw E0
  have HR := HR_
  clear HR_
  have HB := HB_
  clear HB_
  go_wp2_with (fail)
  go_at_call 28
  refine (S0.out S D _ RN.out).mono ?_
  rintro e w3 ⟨rfl, h1, h2⟩
  have HR_ := Lib.hid (HR.out.but h2 nRS)
  have HB_ := Lib.hid (HB.out.trans (h2.below.mono SW.out))
  have RN_ := Lib.hid h1
  clear h1 h2 RN HB HR
  have HR := HR_
  clear HR_
  have RN := RN_
  clear RN_
  have HB := HB_
  clear HB_
  go_wp2_with (fail)
  go_at_call 28
  refine (S1.out S D _ RN.out).mono ?_
  rintro e w4 ⟨rfl, h1, h2⟩
  have HR_ := Lib.hid (HR.out.but h2 nRS)
  have HB_ := Lib.hid (HB.out.trans (h2.below.mono SW.out))
  have RN_ := Lib.hid h1
  clear h1 h2 RN HB HR
  have HR := HR_
  clear HR_
  have RN := RN_
  clear RN_
  have HB := HB_
  clear HB_
  clear S0 S1
  go_upto_region 5 with fail
  obtain ⟨w5, hW⟩ : ∃ w5, w5 = (w4.alloc (.cells #[.slice none 0 0, .slice none 0 0, .slice none 0 0] 26)) := ⟨_, rfl⟩
  have hBx : Below w4.heap.size w4 w5 := hW ▸ (Below.al (Below.refl _ _))
  have HX : Hid (Own w4.heap.size ([.slice none 0 0, .slice none 0 0, .slice none 0 0]) w5) := Lib.hid (hW ▸ (show Own w4.heap.size ([.slice none 0 0, .slice none 0 0, .slice none 0 0]) (w4.alloc (.cells #[.slice none 0 0, .slice none 0 0, .slice none 0 0] 26)) from Own.newAt (by simp)))
  rw [← hW]
  clear hW
  obtain ⟨X, eX⟩ : ∃ X, X = w4.heap.size := ⟨_, rfl⟩
  rw [← eX] at HX ⊢
  have Xw : w4.heap.size ≤ X := by omega
  clear eX
  have nRX : R ≠ X := by have := HR.out.lt; omega
  have nXR : X ≠ R := Ne.symm nRX
  have nSX : S ≠ X := by have := RN.out.lt; omega
  have nXS : X ≠ S := Ne.symm nSX
  have nDX : D ≠ X := by have := HDD.out; have := RN.out.lt; have := HB.out.size; omega
  have XW : Hid (w.heap.size ≤ X) := Lib.hid (by have := HB.out.size; omega)
  have HR_ := Lib.hid (HR.out.later hBx); have HB_ := Lib.hid (Below.go HB.out hBx); have RN_ := Lib.hid (RN.out.later hBx)
  clear HR HB RN hBx Xw
  have HR := HR_
  clear HR_
  have HB := HB_
  clear HB_
  have RN := RN_
  clear RN_
  have X5 := Lib.hid HX.out.lt; have S5 := Lib.hid RN.out.lt; have R5 := Lib.hid HR.out.lt
  have D5 : Hid (D < w5.heap.size) := Lib.hid (by have := HDD.out; have := S5.out; have := HB.out.size; omega)
  go_wp2_with (fail)
  go_loopw [8] (fun iv wr => ∃ (k : Nat) (p : Option Addr) (c0 : Nat), k ≤ n ∧ iv = .int .i64 k ∧ Hid (Own X [.slice p k c0, .slice none 0 0, .slice none 0 0] wr) ∧ Hid (wr.ownsRow w5.heap.size 46 3 (.slice p k c0) k (nums .i64 GV (k * 3))) ∧ Hid (RRn wr S D F N (2 + k * 6)) ∧ Hid (Own R [.slice none 0 0, .slice none 0 0, .slice none 0 0] wr) ∧ Hid (Below w.heap.size w wr) ∧ Hid (w5.heap.size ≤ wr.heap.size)) (fun iv _ => (n - (intOf iv).toNat))
  case atStart => exact ⟨0, none, 0, Nat.zero_le _, rfl, HX, Lib.hid (World.ownsRow_nil _ _ _ _), RN, HR, HB, Lib.hid (Nat.le_refl _)⟩
  case round =>
    clear HX RN HR HB
    obtain ⟨k, p, c0, hk, rfl, HX, ROW, RN, HR, HB, SZ⟩ := hrel
    by_cases hlt : k < n
    · have hki : (k : Int) < (n : Int) := by omega
      have k0 : (0 : Int) ≤ (k : Int) := by omega
      have wk : IntKind.i64.wrap ((k : Int) + 1) = (k : Int) + 1 := IntWalk.i64_in _ (by have := NB.out; omega)
      have HLT := Lib.hid hlt
      obtain ⟨t, et⟩ : ∃ t, 2 + k * 6 = t := ⟨_, rfl⟩
      rw [et] at RN
      have C := Lib.hid (SV.out t S D)
      obtain ⟨x0, ex0⟩ : ∃ x, sgnN F N t = x := ⟨_, rfl⟩
      obtain ⟨x1, ex1⟩ : ∃ x, sgnN F N (t + 2) = x := ⟨_, rfl⟩
      obtain ⟨x2, ex2⟩ : ∃ x, sgnN F N (t + 4) = x := ⟨_, rfl⟩
      rw [ex0, ex1, ex2] at C
      have XS : Hid (nums .i64 GV (k * 3) ++ [.int .i64 x0, .int .i64 x1, .int .i64 x2] = nums .i64 GV ((k + 1) * 3)) := Lib.hid (by
        rw [Nat.succ_mul]
        refine nums_append .i64 GV (fun i => [x0, x1, x2].getD i 0) (k * 3) 3 (fun i hi => ?_)
        rw [EV.out]
        match i, hi with
        | 0, _ => exact (congrArg (sgnN F N) (by omega)).trans ex0
        | 1, _ => exact (congrArg (sgnN F N) (by omega)).trans ex1
        | 2, _ => exact (congrArg (sgnN F N) (by omega)).trans ex2)
      have TN : Hid (t + 6 = 2 + (k + 1) * 6) := Lib.hid (by omega)
      have N63 := Lib.hid (show k + 1 ≤ maxLen by have := NB.out; unfold maxLen; omega)
      have NBY := Lib.hid (show (k + 1) * 24 ≤ 140737488355328 by have := NB.out; omega)
      clear hk hlt et ex0 ex1 ex2
      go_wp2_with (fail)
      refine wp_region_held_drew (S := fun _ => True) (by kernel_rfl) trivial (fun _ => ?_)
      have HX_ := Lib.hid HX.out.drew; have HR_ := Lib.hid HR.out.drew; have RN_ := Lib.hid (RN.out.later (Below.refl _ _).drew); have ROW_ := Lib.hid (row_later ROW.out (Below.refl _ _).drew); have HB_ := Lib.hid HB.out.drew
      have SZ_ : Hid (w5.heap.size ≤ wr.drew.heap.size) := Lib.hid SZ.out
      clear HX HR RN ROW HB SZ
      generalize wr.drew = z0 at *
      have HX := HX_
      clear HX_
      have HR := HR_
      clear HR_
      have RN := RN_
      clear RN_
      have ROW := ROW_
      clear ROW_
      have HB := HB_
      clear HB_
      have SZ := SZ_
      clear SZ_
      refine wpAnyH_take (i := 0) (v := .pointer (some ⟨X, 0, none⟩)) rfl (by kernel_rfl) (by kernel_rfl) (by kernel_rfl) (fun _ _ _ h => h) (Or.inl ⟨by rfl, fun w _ => ?_⟩) trivial ?_
      · go_simp
      try simp only [Act.put, List.getElem_toArray, List.getElem_cons_zero, List.getElem_cons_succ, List.setIfInBounds_toArray, List.set_cons_zero, List.set_cons_succ]
      refine wpAnyH_take (i := 2) (v := .pointer (some ⟨S, 0, none⟩)) rfl (by kernel_rfl) (by kernel_rfl) (by kernel_rfl) (fun _ _ _ h => h) (Or.inl ⟨by rfl, fun w _ => ?_⟩) trivial ?_
      · go_simp
      try simp only [Act.put, List.getElem_toArray, List.getElem_cons_zero, List.getElem_cons_succ, List.setIfInBounds_toArray, List.set_cons_zero, List.set_cons_succ]
      refine wpAnyH_ready (rs := [1, 3]) (by kernel_rfl) (by simp) ?_
      refine (AllReadyH.cons rfl (fun K_ hK => ?_) (AllReadyH.cons rfl (fun K_ hK => ?_) AllReadyH.nil))
      · have oX := HX.out
        have X0 := oX.at 0 _ rfl
        have Xl := oX.lt
        clear oX
        go_simp
        refine hK.out _ _ trivial (fun _ => ?_)
        clear hK K_ X0 Xl
        try simp only [Act.put, List.getElem_toArray, List.getElem_cons_zero, List.getElem_cons_succ, List.setIfInBounds_toArray, List.set_cons_zero, List.set_cons_succ]
        refine wpAnyH_ready (rs := [3]) (by kernel_rfl) (by simp) ?_
        refine (AllReadyH.cons rfl (fun K_ hK => ?_) AllReadyH.nil)
        go_simp
        go_at_call 29
        refine (C.out _ RN.out (by have := HDD.out; have := HB.out.size; omega)).mono ?_
        rintro e z0c ⟨rfl, h1, h2⟩
        have HR_ := Lib.hid (HR.out.but h2 nRS)
        have HX_ := Lib.hid (HX.out.but h2 nXS)
        have ROW_ := Lib.hid (row_but ROW.out h2 (row_ne ROW.out S5.out)); have SZ_ := Lib.hid (Nat.le_trans SZ.out h2.below.size)
        clear ROW SZ
        have ROW := ROW_; have SZ := SZ_
        clear ROW_ SZ_
        have HB_ := Lib.hid (HB.out.trans (h2.below.mono SW.out))
        have RN_ := Lib.hid h1
        clear h1 h2 RN HB HR HX
        have HR := HR_
        clear HR_
        have HX := HX_
        clear HX_
        have RN := RN_
        clear RN_
        have HB := HB_
        clear HB_
        refine hK.out _ _ trivial (fun _ => ?_)
        clear hK K_
        try simp only [Act.put, List.getElem_toArray, List.getElem_cons_zero, List.getElem_cons_succ, List.setIfInBounds_toArray, List.set_cons_zero, List.set_cons_succ]
        refine wpAnyH_ready (rs := [4]) (by kernel_rfl) (by simp) ?_
        refine (AllReadyH.cons rfl (fun K_ hK => ?_) AllReadyH.nil)
        go_simp
        have hal := Below.al (o := .cells #[.int .i64 x0, .int .i64 x1, .int .i64 x2] 46) (Below.refl z0c.heap.size z0c)
        have HN : Own z0c.heap.size [.int .i64 x0, .int .i64 x1, .int .i64 x2] (z0c.alloc (.cells #[.int .i64 x0, .int .i64 x1, .int .i64 x2] 46)) := Own.newAt rfl
        have HX_ := Lib.hid (HX.out.later hal); have HR_ := Lib.hid (HR.out.later hal); have RN_ := Lib.hid (RN.out.later hal); have ROW_ := Lib.hid (row_later ROW.out hal); have HB_ := Lib.hid (Below.go HB.out hal)
        have SZ_ := Lib.hid (Nat.le_trans SZ.out hal.size)
        clear HX HR RN ROW HB SZ hal
        generalize (z0c.alloc (.cells #[.int .i64 x0, .int .i64 x1, .int .i64 x2] 46)) = z0cb at *
        have HX := HX_
        clear HX_
        have HR := HR_
        clear HR_
        have RN := RN_
        clear RN_
        have ROW := ROW_
        clear ROW_
        have HB := HB_
        clear HB_
        have SZ := SZ_
        clear SZ_
        obtain ⟨Z, eZ⟩ : ∃ Z, Z = z0c.heap.size := ⟨_, rfl⟩
        rw [← eZ] at HN ⊢
        clear eZ
        refine hK.out _ _ trivial (fun _ => ?_)
        clear hK K_
        try simp only [Act.put, List.getElem_toArray, List.getElem_cons_zero, List.getElem_cons_succ, List.setIfInBounds_toArray, List.set_cons_zero, List.set_cons_succ]
        refine wpAnyH_ready (rs := [5]) (by kernel_rfl) (by simp) ?_
        refine AllReadyH.cons rfl (fun K_ hK => ?_) AllReadyH.nil
        refine step_append_to rfl _ _ 22 rfl 46 i1 (.agg #[.int .i64 0, .int .i64 0, .int .i64 0]) 3 24 Try.underlying22 hi1 hz1 hs1 hb1 rfl (by decide) w5.heap.size _ k _ rfl ROW.out ⟨Z, 0, none⟩ 1 1 [.int .i64 x0, .int .i64 x1, .int .i64 x2] rfl rfl HN.news (by intro v hv; simp at hv; rcases hv with rfl | rfl | rfl <;> rfl) N63.out NBY.out SZ.out ?_
        intro v' w6 hrow hgr
        obtain ⟨p', c', rfl, _⟩ := row_form hrow
        rw [XS.out] at hrow
        have h6 : Below w5.heap.size z0cb w6 := Below.grown (Below.refl _ _) hgr SZ.out fun q hq => row_ge ROW.out q hq
        have HX_ := Lib.hid (HX.out.under h6 X5.out); have HR_ := Lib.hid (HR.out.under h6 R5.out); have RN_ := Lib.hid (RN.out.under h6 S5.out D5.out); have ROW_ := Lib.hid hrow
        have HB_ := Lib.hid (HB.out.trans (h6.mono (by have := XW.out; have := X5.out; omega))); have SZ_ := Lib.hid (Nat.le_trans SZ.out h6.size)
        clear HX HR RN ROW HB SZ h6 hgr hrow HN
        have HX := HX_
        clear HX_
        have HR := HR_
        clear HR_
        have RN := RN_
        clear RN_
        have ROW := ROW_
        clear ROW_
        have HB := HB_
        clear HB_
        have SZ := SZ_
        clear SZ_
        refine hK.out _ _ trivial (fun _ => ?_)
        clear hK K_
        try simp only [Act.put, List.getElem_toArray, List.getElem_cons_zero, List.getElem_cons_succ, List.setIfInBounds_toArray, List.set_cons_zero, List.set_cons_succ]
        refine wpAnyH_take (i := 6) (v := .pointer (some ⟨X, 0, none⟩)) rfl (by kernel_rfl) (by kernel_rfl) (by kernel_rfl) (fun _ _ _ h => h) (Or.inl ⟨by rfl, fun w _ => ?_⟩) trivial ?_
        · go_simp
        try simp only [Act.put, List.getElem_toArray, List.getElem_cons_zero, List.getElem_cons_succ, List.setIfInBounds_toArray, List.set_cons_zero, List.set_cons_succ]
        refine wpAnyH_ready (rs := [7]) (by kernel_rfl) (by simp) ?_
        refine AllReadyH.cons rfl (fun K_ hK => ?_) AllReadyH.nil
        have oX := HX.out
        have X0 := oX.at 0 _ rfl
        have Xf0 := oX.ok 0 (by simp)
        have Xl := oX.lt
        clear oX
        go_simp
        clear X0 Xf0 Xl
        rw [show w6.setCell ⟨X, 0, none⟩ (.slice p' (k + 1) c') = w6.setCells X 0 [.slice p' (k + 1) c'] from rfl]
        have hbm : But X w6 (w6.setCells X 0 [.slice p' (k + 1) c']) := But.store
        have HX_ : Hid (Own X [.slice p' (k + 1) c', .slice none 0 0, .slice none 0 0] (w6.setCells X 0 [.slice p' (k + 1) c'])) := Lib.hid (show Own X (over _ 0 [.slice p' (k + 1) c']) _ from Own.part HX.out (by simp))
        have HR_ := Lib.hid (HR.out.but hbm nRX); have RN_ := Lib.hid (RN.out.far hbm nSX nDX); have ROW_ := Lib.hid (row_but ROW.out hbm (row_ne ROW.out X5.out))
        have HB_ : Hid (Below w.heap.size w (w6.setCells X 0 [.slice p' (k + 1) c'])) := Lib.hid (Below.setCells HB.out XW.out _ _); have SZ_ := Lib.hid (Nat.le_trans SZ.out hbm.below.size)
        clear HX HR RN ROW HB SZ hbm 
        generalize w6.setCells X 0 [.slice p' (k + 1) c'] = w7 at *
        have HX := HX_
        clear HX_
        have HR := HR_
        clear HR_
        have RN := RN_
        clear RN_
        have ROW := ROW_
        clear ROW_
        have HB := HB_
        clear HB_
        have SZ := SZ_
        clear SZ_
        refine hK.out _ _ trivial (fun _ => ?_)
        clear hK K_
        try simp only [Act.put, List.getElem_toArray, List.getElem_cons_zero, List.getElem_cons_succ, List.setIfInBounds_toArray, List.set_cons_zero, List.set_cons_succ]
        refine wpAnyH_done (by kernel_rfl) ?_ _
        have RN_ : Hid (RRn w7 S D F N (2 + (k + 1) * 6)) := Lib.hid (by rw [← TN.out]; exact RN.out)
        clear RN C XS TN N63 NBY
        go_wp2_with (fail)
        go_roundw
        case rel => (first | exact ⟨k + 1, p', c', HLT.out, by go_num, HX, ROW, RN_, HR, HB, SZ⟩ | ((repeat apply Exists.intro); exact ⟨⟨k + 1, p', c', HLT.out, by go_num, HX, ROW, RN_, HR, HB, SZ⟩, rfl⟩))
        case measure => (have := HLT.out; simp [intOf]; omega)
      · go_simp
        go_at_call 29
        refine (C.out _ RN.out (by have := HDD.out; have := HB.out.size; omega)).mono ?_
        rintro e z0c ⟨rfl, h1, h2⟩
        have HR_ := Lib.hid (HR.out.but h2 nRS)
        have HX_ := Lib.hid (HX.out.but h2 nXS)
        have ROW_ := Lib.hid (row_but ROW.out h2 (row_ne ROW.out S5.out)); have SZ_ := Lib.hid (Nat.le_trans SZ.out h2.below.size)
        clear ROW SZ
        have ROW := ROW_; have SZ := SZ_
        clear ROW_ SZ_
        have HB_ := Lib.hid (HB.out.trans (h2.below.mono SW.out))
        have RN_ := Lib.hid h1
        clear h1 h2 RN HB HR HX
        have HR := HR_
        clear HR_
        have HX := HX_
        clear HX_
        have RN := RN_
        clear RN_
        have HB := HB_
        clear HB_
        refine hK.out _ _ trivial (fun _ => ?_)
        clear hK K_
        try simp only [Act.put, List.getElem_toArray, List.getElem_cons_zero, List.getElem_cons_succ, List.setIfInBounds_toArray, List.set_cons_zero, List.set_cons_succ]
        refine wpAnyH_ready (rs := [1, 4]) (by kernel_rfl) (by simp) ?_
        refine (AllReadyH.cons rfl (fun K_ hK => ?_) (AllReadyH.cons rfl (fun K_ hK => ?_) AllReadyH.nil))
        · have oX := HX.out
          have X0 := oX.at 0 _ rfl
          have Xl := oX.lt
          clear oX
          go_simp
          refine hK.out _ _ trivial (fun _ => ?_)
          clear hK K_ X0 Xl
          try simp only [Act.put, List.getElem_toArray, List.getElem_cons_zero, List.getElem_cons_succ, List.setIfInBounds_toArray, List.set_cons_zero, List.set_cons_succ]
          refine wpAnyH_ready (rs := [4]) (by kernel_rfl) (by simp) ?_
          refine (AllReadyH.cons rfl (fun K_ hK => ?_) AllReadyH.nil)
          go_simp
          have hal := Below.al (o := .cells #[.int .i64 x0, .int .i64 x1, .int .i64 x2] 46) (Below.refl z0c.heap.size z0c)
          have HN : Own z0c.heap.size [.int .i64 x0, .int .i64 x1, .int .i64 x2] (z0c.alloc (.cells #[.int .i64 x0, .int .i64 x1, .int .i64 x2] 46)) := Own.newAt rfl
          have HX_ := Lib.hid (HX.out.later hal); have HR_ := Lib.hid (HR.out.later hal); have RN_ := Lib.hid (RN.out.later hal); have ROW_ := Lib.hid (row_later ROW.out hal); have HB_ := Lib.hid (Below.go HB.out hal)
          have SZ_ := Lib.hid (Nat.le_trans SZ.out hal.size)
          clear HX HR RN ROW HB SZ hal
          generalize (z0c.alloc (.cells #[.int .i64 x0, .int .i64 x1, .int .i64 x2] 46)) = z0cb at *
          have HX := HX_
          clear HX_
          have HR := HR_
          clear HR_
          have RN := RN_
          clear RN_
          have ROW := ROW_
          clear ROW_
          have HB := HB_
          clear HB_
          have SZ := SZ_
          clear SZ_
          obtain ⟨Z, eZ⟩ : ∃ Z, Z = z0c.heap.size := ⟨_, rfl⟩
          rw [← eZ] at HN ⊢
          clear eZ
          refine hK.out _ _ trivial (fun _ => ?_)
          clear hK K_
          try simp only [Act.put, List.getElem_toArray, List.getElem_cons_zero, List.getElem_cons_succ, List.setIfInBounds_toArray, List.set_cons_zero, List.set_cons_succ]
          refine wpAnyH_ready (rs := [5]) (by kernel_rfl) (by simp) ?_
          refine AllReadyH.cons rfl (fun K_ hK => ?_) AllReadyH.nil
          refine step_append_to rfl _ _ 22 rfl 46 i1 (.agg #[.int .i64 0, .int .i64 0, .int .i64 0]) 3 24 Try.underlying22 hi1 hz1 hs1 hb1 rfl (by decide) w5.heap.size _ k _ rfl ROW.out ⟨Z, 0, none⟩ 1 1 [.int .i64 x0, .int .i64 x1, .int .i64 x2] rfl rfl HN.news (by intro v hv; simp at hv; rcases hv with rfl | rfl | rfl <;> rfl) N63.out NBY.out SZ.out ?_
          intro v' w6 hrow hgr
          obtain ⟨p', c', rfl, _⟩ := row_form hrow
          rw [XS.out] at hrow
          have h6 : Below w5.heap.size z0cb w6 := Below.grown (Below.refl _ _) hgr SZ.out fun q hq => row_ge ROW.out q hq
          have HX_ := Lib.hid (HX.out.under h6 X5.out); have HR_ := Lib.hid (HR.out.under h6 R5.out); have RN_ := Lib.hid (RN.out.under h6 S5.out D5.out); have ROW_ := Lib.hid hrow
          have HB_ := Lib.hid (HB.out.trans (h6.mono (by have := XW.out; have := X5.out; omega))); have SZ_ := Lib.hid (Nat.le_trans SZ.out h6.size)
          clear HX HR RN ROW HB SZ h6 hgr hrow HN
          have HX := HX_
          clear HX_
          have HR := HR_
          clear HR_
          have RN := RN_
          clear RN_
          have ROW := ROW_
          clear ROW_
          have HB := HB_
          clear HB_
          have SZ := SZ_
          clear SZ_
          refine hK.out _ _ trivial (fun _ => ?_)
          clear hK K_
          try simp only [Act.put, List.getElem_toArray, List.getElem_cons_zero, List.getElem_cons_succ, List.setIfInBounds_toArray, List.set_cons_zero, List.set_cons_succ]
          refine wpAnyH_take (i := 6) (v := .pointer (some ⟨X, 0, none⟩)) rfl (by kernel_rfl) (by kernel_rfl) (by kernel_rfl) (fun _ _ _ h => h) (Or.inl ⟨by rfl, fun w _ => ?_⟩) trivial ?_
          · go_simp
          try simp only [Act.put, List.getElem_toArray, List.getElem_cons_zero, List.getElem_cons_succ, List.setIfInBounds_toArray, List.set_cons_zero, List.set_cons_succ]
          refine wpAnyH_ready (rs := [7]) (by kernel_rfl) (by simp) ?_
          refine AllReadyH.cons rfl (fun K_ hK => ?_) AllReadyH.nil
          have oX := HX.out
          have X0 := oX.at 0 _ rfl
          have Xf0 := oX.ok 0 (by simp)
          have Xl := oX.lt
          clear oX
          go_simp
          clear X0 Xf0 Xl
          rw [show w6.setCell ⟨X, 0, none⟩ (.slice p' (k + 1) c') = w6.setCells X 0 [.slice p' (k + 1) c'] from rfl]
          have hbm : But X w6 (w6.setCells X 0 [.slice p' (k + 1) c']) := But.store
          have HX_ : Hid (Own X [.slice p' (k + 1) c', .slice none 0 0, .slice none 0 0] (w6.setCells X 0 [.slice p' (k + 1) c'])) := Lib.hid (show Own X (over _ 0 [.slice p' (k + 1) c']) _ from Own.part HX.out (by simp))
          have HR_ := Lib.hid (HR.out.but hbm nRX); have RN_ := Lib.hid (RN.out.far hbm nSX nDX); have ROW_ := Lib.hid (row_but ROW.out hbm (row_ne ROW.out X5.out))
          have HB_ : Hid (Below w.heap.size w (w6.setCells X 0 [.slice p' (k + 1) c'])) := Lib.hid (Below.setCells HB.out XW.out _ _); have SZ_ := Lib.hid (Nat.le_trans SZ.out hbm.below.size)
          clear HX HR RN ROW HB SZ hbm 
          generalize w6.setCells X 0 [.slice p' (k + 1) c'] = w7 at *
          have HX := HX_
          clear HX_
          have HR := HR_
          clear HR_
          have RN := RN_
          clear RN_
          have ROW := ROW_
          clear ROW_
          have HB := HB_
          clear HB_
          have SZ := SZ_
          clear SZ_
          refine hK.out _ _ trivial (fun _ => ?_)
          clear hK K_
          try simp only [Act.put, List.getElem_toArray, List.getElem_cons_zero, List.getElem_cons_succ, List.setIfInBounds_toArray, List.set_cons_zero, List.set_cons_succ]
          refine wpAnyH_done (by kernel_rfl) ?_ _
          have RN_ : Hid (RRn w7 S D F N (2 + (k + 1) * 6)) := Lib.hid (by rw [← TN.out]; exact RN.out)
          clear RN C XS TN N63 NBY
          go_wp2_with (fail)
          go_roundw
          case rel => (first | exact ⟨k + 1, p', c', HLT.out, by go_num, HX, ROW, RN_, HR, HB, SZ⟩ | ((repeat apply Exists.intro); exact ⟨⟨k + 1, p', c', HLT.out, by go_num, HX, ROW, RN_, HR, HB, SZ⟩, rfl⟩))
          case measure => (have := HLT.out; simp [intOf]; omega)
        · go_simp
          have hal := Below.al (o := .cells #[.int .i64 x0, .int .i64 x1, .int .i64 x2] 46) (Below.refl z0c.heap.size z0c)
          have HN : Own z0c.heap.size [.int .i64 x0, .int .i64 x1, .int .i64 x2] (z0c.alloc (.cells #[.int .i64 x0, .int .i64 x1, .int .i64 x2] 46)) := Own.newAt rfl
          have HX_ := Lib.hid (HX.out.later hal); have HR_ := Lib.hid (HR.out.later hal); have RN_ := Lib.hid (RN.out.later hal); have ROW_ := Lib.hid (row_later ROW.out hal); have HB_ := Lib.hid (Below.go HB.out hal)
          have SZ_ := Lib.hid (Nat.le_trans SZ.out hal.size)
          clear HX HR RN ROW HB SZ hal
          generalize (z0c.alloc (.cells #[.int .i64 x0, .int .i64 x1, .int .i64 x2] 46)) = z0cb at *
          have HX := HX_
          clear HX_
          have HR := HR_
          clear HR_
          have RN := RN_
          clear RN_
          have ROW := ROW_
          clear ROW_
          have HB := HB_
          clear HB_
          have SZ := SZ_
          clear SZ_
          obtain ⟨Z, eZ⟩ : ∃ Z, Z = z0c.heap.size := ⟨_, rfl⟩
          rw [← eZ] at HN ⊢
          clear eZ
          refine hK.out _ _ trivial (fun _ => ?_)
          clear hK K_
          try simp only [Act.put, List.getElem_toArray, List.getElem_cons_zero, List.getElem_cons_succ, List.setIfInBounds_toArray, List.set_cons_zero, List.set_cons_succ]
          refine wpAnyH_ready (rs := [1]) (by kernel_rfl) (by simp) ?_
          refine (AllReadyH.cons rfl (fun K_ hK => ?_) AllReadyH.nil)
          have oX := HX.out
          have X0 := oX.at 0 _ rfl
          have Xl := oX.lt
          clear oX
          go_simp
          refine hK.out _ _ trivial (fun _ => ?_)
          clear hK K_ X0 Xl
          try simp only [Act.put, List.getElem_toArray, List.getElem_cons_zero, List.getElem_cons_succ, List.setIfInBounds_toArray, List.set_cons_zero, List.set_cons_succ]
          refine wpAnyH_ready (rs := [5]) (by kernel_rfl) (by simp) ?_
          refine AllReadyH.cons rfl (fun K_ hK => ?_) AllReadyH.nil
          refine step_append_to rfl _ _ 22 rfl 46 i1 (.agg #[.int .i64 0, .int .i64 0, .int .i64 0]) 3 24 Try.underlying22 hi1 hz1 hs1 hb1 rfl (by decide) w5.heap.size _ k _ rfl ROW.out ⟨Z, 0, none⟩ 1 1 [.int .i64 x0, .int .i64 x1, .int .i64 x2] rfl rfl HN.news (by intro v hv; simp at hv; rcases hv with rfl | rfl | rfl <;> rfl) N63.out NBY.out SZ.out ?_
          intro v' w6 hrow hgr
          obtain ⟨p', c', rfl, _⟩ := row_form hrow
          rw [XS.out] at hrow
          have h6 : Below w5.heap.size z0cb w6 := Below.grown (Below.refl _ _) hgr SZ.out fun q hq => row_ge ROW.out q hq
          have HX_ := Lib.hid (HX.out.under h6 X5.out); have HR_ := Lib.hid (HR.out.under h6 R5.out); have RN_ := Lib.hid (RN.out.under h6 S5.out D5.out); have ROW_ := Lib.hid hrow
          have HB_ := Lib.hid (HB.out.trans (h6.mono (by have := XW.out; have := X5.out; omega))); have SZ_ := Lib.hid (Nat.le_trans SZ.out h6.size)
          clear HX HR RN ROW HB SZ h6 hgr hrow HN
          have HX := HX_
          clear HX_
          have HR := HR_
          clear HR_
          have RN := RN_
          clear RN_
          have ROW := ROW_
          clear ROW_
          have HB := HB_
          clear HB_
          have SZ := SZ_
          clear SZ_
          refine hK.out _ _ trivial (fun _ => ?_)
          clear hK K_
          try simp only [Act.put, List.getElem_toArray, List.getElem_cons_zero, List.getElem_cons_succ, List.setIfInBounds_toArray, List.set_cons_zero, List.set_cons_succ]
          refine wpAnyH_take (i := 6) (v := .pointer (some ⟨X, 0, none⟩)) rfl (by kernel_rfl) (by kernel_rfl) (by kernel_rfl) (fun _ _ _ h => h) (Or.inl ⟨by rfl, fun w _ => ?_⟩) trivial ?_
          · go_simp
          try simp only [Act.put, List.getElem_toArray, List.getElem_cons_zero, List.getElem_cons_succ, List.setIfInBounds_toArray, List.set_cons_zero, List.set_cons_succ]
          refine wpAnyH_ready (rs := [7]) (by kernel_rfl) (by simp) ?_
          refine AllReadyH.cons rfl (fun K_ hK => ?_) AllReadyH.nil
          have oX := HX.out
          have X0 := oX.at 0 _ rfl
          have Xf0 := oX.ok 0 (by simp)
          have Xl := oX.lt
          clear oX
          go_simp
          clear X0 Xf0 Xl
          rw [show w6.setCell ⟨X, 0, none⟩ (.slice p' (k + 1) c') = w6.setCells X 0 [.slice p' (k + 1) c'] from rfl]
          have hbm : But X w6 (w6.setCells X 0 [.slice p' (k + 1) c']) := But.store
          have HX_ : Hid (Own X [.slice p' (k + 1) c', .slice none 0 0, .slice none 0 0] (w6.setCells X 0 [.slice p' (k + 1) c'])) := Lib.hid (show Own X (over _ 0 [.slice p' (k + 1) c']) _ from Own.part HX.out (by simp))
          have HR_ := Lib.hid (HR.out.but hbm nRX); have RN_ := Lib.hid (RN.out.far hbm nSX nDX); have ROW_ := Lib.hid (row_but ROW.out hbm (row_ne ROW.out X5.out))
          have HB_ : Hid (Below w.heap.size w (w6.setCells X 0 [.slice p' (k + 1) c'])) := Lib.hid (Below.setCells HB.out XW.out _ _); have SZ_ := Lib.hid (Nat.le_trans SZ.out hbm.below.size)
          clear HX HR RN ROW HB SZ hbm 
          generalize w6.setCells X 0 [.slice p' (k + 1) c'] = w7 at *
          have HX := HX_
          clear HX_
          have HR := HR_
          clear HR_
          have RN := RN_
          clear RN_
          have ROW := ROW_
          clear ROW_
          have HB := HB_
          clear HB_
          have SZ := SZ_
          clear SZ_
          refine hK.out _ _ trivial (fun _ => ?_)
          clear hK K_
          try simp only [Act.put, List.getElem_toArray, List.getElem_cons_zero, List.getElem_cons_succ, List.setIfInBounds_toArray, List.set_cons_zero, List.set_cons_succ]
          refine wpAnyH_done (by kernel_rfl) ?_ _
          have RN_ : Hid (RRn w7 S D F N (2 + (k + 1) * 6)) := Lib.hid (by rw [← TN.out]; exact RN.out)
          clear RN C XS TN N63 NBY
          go_wp2_with (fail)
          go_roundw
          case rel => (first | exact ⟨k + 1, p', c', HLT.out, by go_num, HX, ROW, RN_, HR, HB, SZ⟩ | ((repeat apply Exists.intro); exact ⟨⟨k + 1, p', c', HLT.out, by go_num, HX, ROW, RN_, HR, HB, SZ⟩, rfl⟩))
          case measure => (have := HLT.out; simp [intOf]; omega)
    · obtain rfl : n = k := by omega
      clear hlt hk
      obtain ⟨v1, ewr⟩ : ∃ x, x = wr := ⟨_, rfl⟩
      subst ewr
      obtain ⟨pv, ewr⟩ : ∃ x, x = p := ⟨_, rfl⟩
      subst ewr
      obtain ⟨cv, ewr⟩ : ∃ x, x = c0 := ⟨_, rfl⟩
      subst ewr
      have nr := nms_row (s := 3) ROW.out
      have NV := Lib.hid nr.2.1; have NVb := Lib.hid nr.2.2.2.2; have NVc := Lib.hid (And.intro nr.2.2.1 nr.2.2.2.1)
      have SZv1 := SZ
      clear ROW SZ nr
      have Xv1 : Hid (X < v1.heap.size) := Lib.hid HX.out.lt; have Sv1 : Hid (S < v1.heap.size) := Lib.hid RN.out.lt; have Rv1 : Hid (R < v1.heap.size) := Lib.hid HR.out.lt
      have Dv1 : Hid (D < v1.heap.size) := Lib.hid (by have := D5.out; have := SZv1.out; have := SZv1.out; omega)
      have V5v1 : Hid (w5.heap.size ≤ v1.heap.size) := Lib.hid (by have := SZv1.out; have := SZv1.out; omega)
      have RN_ : Hid (RRn v1 S D F N (2 + n * 6 + 0 * 4)) := Lib.hid (by have := RN.out; rwa [show 2 + n * 6 = 2 + n * 6 + 0 * 4 by omega] at this)
      clear RN
      have RN := RN_
      clear RN_
      go_wp2_with (fail)
      go_loopw [9] (fun iv wr => ∃ (k : Nat) (p : Option Addr) (c0 : Nat), k ≤ n ∧ iv = .int .i64 k ∧ Hid (Own X [.slice pv n cv, .slice p k c0, .slice none 0 0] wr) ∧ Hid (wr.ownsRow v1.heap.size 48 2 (.slice p k c0) k (nums .i64 GU (k * 2))) ∧ Hid (RRn wr S D F N (2 + n * 6 + k * 4)) ∧ Hid (Own R [.slice none 0 0, .slice none 0 0, .slice none 0 0] wr) ∧ Hid (Below w.heap.size w wr) ∧ Hid (v1.heap.size ≤ wr.heap.size) ∧ Hid (NmS wr 3 pv n GV)) (fun iv _ => (n - (intOf iv).toNat))
      case atStart => exact ⟨0, none, 0, Nat.zero_le _, rfl, HX, Lib.hid (World.ownsRow_nil _ _ _ _), RN, HR, HB, Lib.hid (Nat.le_refl _), NV⟩
      case round =>
        clear HX RN HR HB NV
        obtain ⟨k, p, c0, hk, rfl, HX, ROW, RN, HR, HB, SZ, NV⟩ := hrel
        by_cases hlt : k < n
        · have hki : (k : Int) < (n : Int) := by omega
          have k0 : (0 : Int) ≤ (k : Int) := by omega
          have wk : IntKind.i64.wrap ((k : Int) + 1) = (k : Int) + 1 := IntWalk.i64_in _ (by have := NB.out; omega)
          have HLT := Lib.hid hlt
          obtain ⟨t, et⟩ : ∃ t, 2 + n * 6 + k * 4 = t := ⟨_, rfl⟩
          rw [et] at RN
          have C0 := Lib.hid (SU.out (t) S D)
          obtain ⟨x0, ex0⟩ : ∃ x, valN F N (t) 2 = x := ⟨_, rfl⟩
          rw [ex0] at C0
          have wx0 := BU.out (t)
          rw [ex0] at wx0
          have C1 := Lib.hid (SU.out (t + 2) S D)
          obtain ⟨x1, ex1⟩ : ∃ x, valN F N (t + 2) 2 = x := ⟨_, rfl⟩
          rw [ex1] at C1
          have wx1 := BU.out (t + 2)
          rw [ex1] at wx1
          have XS : Hid (nums .i64 GU (k * 2) ++ [.int .i64 x0, .int .i64 x1] = nums .i64 GU ((k + 1) * 2)) := Lib.hid (by
            rw [Nat.succ_mul]
            refine nums_append .i64 GU (fun i => [x0, x1].getD i 0) (k * 2) 2 (fun i hi => ?_)
            rw [EU.out]
            match i, hi with
            | 0, _ => exact (congrArg (fun z => valN F N z 2) (by omega)).trans ex0
            | 1, _ => exact (congrArg (fun z => valN F N z 2) (by omega)).trans ex1)
          have TN : Hid (t + 2 + 2 = 2 + n * 6 + (k + 1) * 4) := Lib.hid (by omega)
          have N63 := Lib.hid (show k + 1 ≤ maxLen by have := NB.out; unfold maxLen; omega)
          have NBY := Lib.hid (show (k + 1) * 16 ≤ 140737488355328 by have := NB.out; omega)
          clear hk hlt et ex0 ex1
          go_wp2_with (fail)
          go_at_call 28
          refine (C0.out _ RN.out).mono ?_
          rintro e y0 ⟨rfl, h1, h2⟩
          have HR_ := Lib.hid (HR.out.but h2 nRS)
          have HX_ := Lib.hid (HX.out.but h2 nXS)
          have NV_ := Lib.hid (NV.out.but h2 (fun b o e => by have := NVb.out b o e; have := S5.out; have := SZv1.out; omega))
          have ROW_ := Lib.hid (row_but ROW.out h2 (row_ne ROW.out Sv1.out)); have SZ_ := Lib.hid (Nat.le_trans SZ.out h2.below.size)
          clear ROW SZ
          have ROW := ROW_; have SZ := SZ_
          clear ROW_ SZ_
          have HB_ := Lib.hid (HB.out.trans (h2.below.mono SW.out))
          have RN_ := Lib.hid h1
          clear h1 h2 RN HB HR HX NV
          have HR := HR_
          clear HR_
          have HX := HX_
          clear HX_
          have NV := NV_
          clear NV_
          have RN := RN_
          clear RN_
          have HB := HB_
          clear HB_
          go_wp2_with (fail)
          go_at_call 28
          refine (C1.out _ RN.out).mono ?_
          rintro e y1 ⟨rfl, h1, h2⟩
          have HR_ := Lib.hid (HR.out.but h2 nRS)
          have HX_ := Lib.hid (HX.out.but h2 nXS)
          have NV_ := Lib.hid (NV.out.but h2 (fun b o e => by have := NVb.out b o e; have := S5.out; have := SZv1.out; omega))
          have ROW_ := Lib.hid (row_but ROW.out h2 (row_ne ROW.out Sv1.out)); have SZ_ := Lib.hid (Nat.le_trans SZ.out h2.below.size)
          clear ROW SZ
          have ROW := ROW_; have SZ := SZ_
          clear ROW_ SZ_
          have HB_ := Lib.hid (HB.out.trans (h2.below.mono SW.out))
          have RN_ := Lib.hid h1
          clear h1 h2 RN HB HR HX NV
          have HR := HR_
          clear HR_
          have HX := HX_
          clear HX_
          have NV := NV_
          clear NV_
          have RN := RN_
          clear RN_
          have HB := HB_
          clear HB_
          have oX := HX.out
          have X1 := oX.at 1 _ rfl
          have Xl := oX.lt
          clear oX
          have HS2 : Hid (v1.heap.size ≤ (y1.alloc (.cells #[.int .i64 x0, .int .i64 x1] 48)).heap.size) := Lib.hid (Nat.le_trans SZ.out (Below.al (Below.refl _ _)).size)
          go_wp2_with (at_builtin; refine wpList_append_own _ rfl _ _ 23 rfl v1.heap.size 48 i2 (.agg #[.int .i64 0, .int .i64 0]) 2 16 Try.underlying23 hi2 hz2 hs2 hb2 rfl (by decide) _ k _ rfl (row_later ROW.out (Below.al (Below.refl _ _))) ⟨y1.heap.size, 0, none⟩ 1 1 [.int .i64 x0, .int .i64 x1] rfl rfl (Own.newAt (by rfl)).news (by intro v hv; simp at hv; rcases hv with rfl | rfl <;> rfl) N63.out NBY.out HS2.out ?_; intro v' w6 hrow hgr _; obtain ⟨p', c', rfl, _⟩ := row_form hrow; rw [XS.out] at hrow; have h6 : Below v1.heap.size y1 w6 := Below.grown ((Below.refl _ _).alloc SZ.out _) hgr HS2.out (fun q hq => row_ge ROW.out q hq); have HX_ := Lib.hid (HX.out.under h6 Xv1.out); have HR_ := Lib.hid (HR.out.under h6 Rv1.out); have RN_ := Lib.hid (RN.out.under h6 Sv1.out Dv1.out); have ROW_ := Lib.hid hrow; have HB_ := Lib.hid (HB.out.trans (h6.mono (by have := XW.out; have := Xv1.out; omega))); have SZ_ := Lib.hid (Nat.le_trans SZ.out h6.size); have NV_ := Lib.hid (NV.out.under h6 (fun b o e => by have := NVb.out b o e; have := V5v1.out; omega)); clear HX HR RN ROW HB SZ h6 hgr hrow X1 Xl NV; have HX := HX_; have HR := HR_; have RN := RN_; have ROW := ROW_; have HB := HB_; have SZ := SZ_; have NV := NV_; clear HX_ HR_ RN_ ROW_ HB_ SZ_ NV_; have X1 := HX.out.at 1 _ rfl; have Xf1 := HX.out.ok 1 (by simp); have Xl := HX.out.lt)
          clear X1 Xf1 Xl
          rw [show w6.setCell ⟨X, 1, none⟩ (.slice p' (k + 1) c') = w6.setCells X 1 [.slice p' (k + 1) c'] from rfl]
          have hbm : But X w6 (w6.setCells X 1 [.slice p' (k + 1) c']) := But.store
          have HX_ : Hid (Own X [.slice pv n cv, (.slice p' (k + 1) c'), .slice none 0 0] (w6.setCells X 1 [.slice p' (k + 1) c'])) := Lib.hid (show Own X (over _ 1 [.slice p' (k + 1) c']) _ from Own.part HX.out (by simp))
          have HR_ := Lib.hid (HR.out.but hbm nRX); have RN_ := Lib.hid (RN.out.far hbm nSX nDX); have ROW_ := Lib.hid (row_but ROW.out hbm (row_ne ROW.out Xv1.out))
          have HB_ : Hid (Below w.heap.size w (w6.setCells X 1 [.slice p' (k + 1) c'])) := Lib.hid (Below.setCells HB.out XW.out _ _); have SZ_ := Lib.hid (Nat.le_trans SZ.out hbm.below.size)
          have NV_ := Lib.hid (NV.out.but hbm (fun b o e => by have := NVb.out b o e; have := X5.out; have := SZv1.out; omega))
          clear HX HR RN ROW HB SZ hbm NV
          generalize w6.setCells X 1 [.slice p' (k + 1) c'] = w7 at *
          have HX := HX_
          clear HX_
          have HR := HR_
          clear HR_
          have RN := RN_
          clear RN_
          have ROW := ROW_
          clear ROW_
          have HB := HB_
          clear HB_
          have SZ := SZ_
          clear SZ_
          have NV := NV_
          clear NV_
          have RN_ : Hid (RRn w7 S D F N (2 + n * 6 + (k + 1) * 4)) := Lib.hid (by rw [← TN.out]; exact RN.out)
          clear RN XS TN N63 NBY HS2 C0 C1
          go_roundw
          case rel => (first | exact ⟨k + 1, p', c', HLT.out, by go_num, HX, ROW, RN_, HR, HB, SZ, NV⟩ | ((repeat apply Exists.intro); exact ⟨⟨k + 1, p', c', HLT.out, by go_num, HX, ROW, RN_, HR, HB, SZ, NV⟩, rfl⟩))
          case measure => (have := HLT.out; simp [intOf]; omega)
        · obtain rfl : n = k := by omega
          clear hlt hk
          obtain ⟨v2, ewr⟩ : ∃ x, x = wr := ⟨_, rfl⟩
          subst ewr
          obtain ⟨pu, ewr⟩ : ∃ x, x = p := ⟨_, rfl⟩
          subst ewr
          obtain ⟨cu, ewr⟩ : ∃ x, x = c0 := ⟨_, rfl⟩
          subst ewr
          have nr := nms_row (s := 2) ROW.out
          have NU := Lib.hid nr.2.1; have NUb := Lib.hid nr.2.2.2.2; have NUc := Lib.hid (And.intro nr.2.2.1 nr.2.2.2.1)
          have SZv2 := SZ
          clear ROW SZ nr
          have Xv2 : Hid (X < v2.heap.size) := Lib.hid HX.out.lt; have Sv2 : Hid (S < v2.heap.size) := Lib.hid RN.out.lt; have Rv2 : Hid (R < v2.heap.size) := Lib.hid HR.out.lt
          have Dv2 : Hid (D < v2.heap.size) := Lib.hid (by have := D5.out; have := SZv2.out; have := SZv1.out; omega)
          have V5v2 : Hid (w5.heap.size ≤ v2.heap.size) := Lib.hid (by have := SZv2.out; have := SZv1.out; omega)
          have RN_ : Hid (RRn v2 S D F N (2 + n * 10 + 0 * 3)) := Lib.hid (by have := RN.out; rwa [show 2 + n * 6 + n * 4 = 2 + n * 10 + 0 * 3 by omega] at this)
          clear RN
          have RN := RN_
          clear RN_
          go_wp2_with (fail)
          go_loopw [12] (fun iv wr => ∃ (k : Nat) (p : Option Addr) (c0 : Nat), k ≤ m ∧ iv = .int .i64 k ∧ Hid (Own X [.slice pv n cv, .slice pu n cu, .slice p k c0] wr) ∧ Hid (wr.ownsRow v2.heap.size 52 3 (.slice p k c0) k (nums .i64 GR (k * 3))) ∧ Hid (RRn wr S D F N (2 + n * 10 + k * 3)) ∧ Hid (Own R [.slice none 0 0, .slice none 0 0, .slice none 0 0] wr) ∧ Hid (Below w.heap.size w wr) ∧ Hid (v2.heap.size ≤ wr.heap.size) ∧ Hid (NmS wr 3 pv n GV) ∧ Hid (NmS wr 2 pu n GU)) (fun iv _ => (m - (intOf iv).toNat))
          case atStart => exact ⟨0, none, 0, Nat.zero_le _, rfl, HX, Lib.hid (World.ownsRow_nil _ _ _ _), RN, HR, HB, Lib.hid (Nat.le_refl _), NV, NU⟩
          case round =>
            clear HX RN HR HB NV NU
            obtain ⟨k, p, c0, hk, rfl, HX, ROW, RN, HR, HB, SZ, NV, NU⟩ := hrel
            by_cases hlt : k < m
            · have hki : (k : Int) < (m : Int) := by omega
              have k0 : (0 : Int) ≤ (k : Int) := by omega
              have wk : IntKind.i64.wrap ((k : Int) + 1) = (k : Int) + 1 := IntWalk.i64_in _ (by have := MB.out; omega)
              have HLT := Lib.hid hlt
              obtain ⟨t, et⟩ : ∃ t, 2 + n * 10 + k * 3 = t := ⟨_, rfl⟩
              rw [et] at RN
              have C0 := Lib.hid (ST.out (t) S D)
              obtain ⟨x0, ex0⟩ : ∃ x, valN F N (t) 1 = x := ⟨_, rfl⟩
              rw [ex0] at C0
              have wx0 := BT.out (t)
              rw [ex0] at wx0
              have C1 := Lib.hid (ST.out (t + 1) S D)
              obtain ⟨x1, ex1⟩ : ∃ x, valN F N (t + 1) 1 = x := ⟨_, rfl⟩
              rw [ex1] at C1
              have wx1 := BT.out (t + 1)
              rw [ex1] at wx1
              have C2 := Lib.hid (ST.out (t + 1 + 1) S D)
              obtain ⟨x2, ex2⟩ : ∃ x, valN F N (t + 1 + 1) 1 = x := ⟨_, rfl⟩
              rw [ex2] at C2
              have wx2 := BT.out (t + 1 + 1)
              rw [ex2] at wx2
              have XS : Hid (nums .i64 GR (k * 3) ++ [.int .i64 x0, .int .i64 x1, .int .i64 x2] = nums .i64 GR ((k + 1) * 3)) := Lib.hid (by
                rw [Nat.succ_mul]
                refine nums_append .i64 GR (fun i => [x0, x1, x2].getD i 0) (k * 3) 3 (fun i hi => ?_)
                rw [ER.out]
                match i, hi with
                | 0, _ => exact (congrArg (fun z => valN F N z 1) (by omega)).trans ex0
                | 1, _ => exact (congrArg (fun z => valN F N z 1) (by omega)).trans ex1
                | 2, _ => exact (congrArg (fun z => valN F N z 1) (by omega)).trans ex2)
              have TN : Hid (t + 1 + 1 + 1 = 2 + n * 10 + (k + 1) * 3) := Lib.hid (by omega)
              have N63 := Lib.hid (show k + 1 ≤ maxLen by have := MB.out; unfold maxLen; omega)
              have NBY := Lib.hid (show (k + 1) * 24 ≤ 140737488355328 by have := MB.out; omega)
              clear hk hlt et ex0 ex1 ex2
              go_wp2_with (fail)
              go_at_call 28
              refine (C0.out _ RN.out).mono ?_
              rintro e y0 ⟨rfl, h1, h2⟩
              have HR_ := Lib.hid (HR.out.but h2 nRS)
              have HX_ := Lib.hid (HX.out.but h2 nXS)
              have NV_ := Lib.hid (NV.out.but h2 (fun b o e => by have := NVb.out b o e; have := S5.out; have := SZv1.out; omega))
              have NU_ := Lib.hid (NU.out.but h2 (fun b o e => by have := NUb.out b o e; have := S5.out; have := SZv1.out; omega))
              have ROW_ := Lib.hid (row_but ROW.out h2 (row_ne ROW.out Sv2.out)); have SZ_ := Lib.hid (Nat.le_trans SZ.out h2.below.size)
              clear ROW SZ
              have ROW := ROW_; have SZ := SZ_
              clear ROW_ SZ_
              have HB_ := Lib.hid (HB.out.trans (h2.below.mono SW.out))
              have RN_ := Lib.hid h1
              clear h1 h2 RN HB HR HX NV NU
              have HR := HR_
              clear HR_
              have HX := HX_
              clear HX_
              have NV := NV_
              clear NV_
              have NU := NU_
              clear NU_
              have RN := RN_
              clear RN_
              have HB := HB_
              clear HB_
              go_wp2_with (fail)
              go_at_call 28
              refine (C1.out _ RN.out).mono ?_
              rintro e y1 ⟨rfl, h1, h2⟩
              have HR_ := Lib.hid (HR.out.but h2 nRS)
              have HX_ := Lib.hid (HX.out.but h2 nXS)
              have NV_ := Lib.hid (NV.out.but h2 (fun b o e => by have := NVb.out b o e; have := S5.out; have := SZv1.out; omega))
              have NU_ := Lib.hid (NU.out.but h2 (fun b o e => by have := NUb.out b o e; have := S5.out; have := SZv1.out; omega))
              have ROW_ := Lib.hid (row_but ROW.out h2 (row_ne ROW.out Sv2.out)); have SZ_ := Lib.hid (Nat.le_trans SZ.out h2.below.size)
              clear ROW SZ
              have ROW := ROW_; have SZ := SZ_
              clear ROW_ SZ_
              have HB_ := Lib.hid (HB.out.trans (h2.below.mono SW.out))
              have RN_ := Lib.hid h1
              clear h1 h2 RN HB HR HX NV NU
              have HR := HR_
              clear HR_
              have HX := HX_
              clear HX_
              have NV := NV_
              clear NV_
              have NU := NU_
              clear NU_
              have RN := RN_
              clear RN_
              have HB := HB_
              clear HB_
              go_wp2_with (fail)
              go_at_call 28
              refine (C2.out _ RN.out).mono ?_
              rintro e y2 ⟨rfl, h1, h2⟩
              have HR_ := Lib.hid (HR.out.but h2 nRS)
              have HX_ := Lib.hid (HX.out.but h2 nXS)
              have NV_ := Lib.hid (NV.out.but h2 (fun b o e => by have := NVb.out b o e; have := S5.out; have := SZv1.out; omega))
              have NU_ := Lib.hid (NU.out.but h2 (fun b o e => by have := NUb.out b o e; have := S5.out; have := SZv1.out; omega))
              have ROW_ := Lib.hid (row_but ROW.out h2 (row_ne ROW.out Sv2.out)); have SZ_ := Lib.hid (Nat.le_trans SZ.out h2.below.size)
              clear ROW SZ
              have ROW := ROW_; have SZ := SZ_
              clear ROW_ SZ_
              have HB_ := Lib.hid (HB.out.trans (h2.below.mono SW.out))
              have RN_ := Lib.hid h1
              clear h1 h2 RN HB HR HX NV NU
              have HR := HR_
              clear HR_
              have HX := HX_
              clear HX_
              have NV := NV_
              clear NV_
              have NU := NU_
              clear NU_
              have RN := RN_
              clear RN_
              have HB := HB_
              clear HB_
              have oX := HX.out
              have X2 := oX.at 2 _ rfl
              have Xl := oX.lt
              clear oX
              have HS2 : Hid (v2.heap.size ≤ (y2.alloc (.cells #[.int .i64 x0, .int .i64 x1, .int .i64 x2] 52)).heap.size) := Lib.hid (Nat.le_trans SZ.out (Below.al (Below.refl _ _)).size)
              go_wp2_with (at_builtin; refine wpList_append_own _ rfl _ _ 24 rfl v2.heap.size 52 i3 (.agg #[.int .i64 0, .int .i64 0, .int .i64 0]) 3 24 Try.underlying24 hi3 hz3 hs3 hb3 rfl (by decide) _ k _ rfl (row_later ROW.out (Below.al (Below.refl _ _))) ⟨y2.heap.size, 0, none⟩ 1 1 [.int .i64 x0, .int .i64 x1, .int .i64 x2] rfl rfl (Own.newAt (by rfl)).news (by intro v hv; simp at hv; rcases hv with rfl | rfl | rfl <;> rfl) N63.out NBY.out HS2.out ?_; intro v' w6 hrow hgr _; obtain ⟨p', c', rfl, _⟩ := row_form hrow; rw [XS.out] at hrow; have h6 : Below v2.heap.size y2 w6 := Below.grown ((Below.refl _ _).alloc SZ.out _) hgr HS2.out (fun q hq => row_ge ROW.out q hq); have HX_ := Lib.hid (HX.out.under h6 Xv2.out); have HR_ := Lib.hid (HR.out.under h6 Rv2.out); have RN_ := Lib.hid (RN.out.under h6 Sv2.out Dv2.out); have ROW_ := Lib.hid hrow; have HB_ := Lib.hid (HB.out.trans (h6.mono (by have := XW.out; have := Xv2.out; omega))); have SZ_ := Lib.hid (Nat.le_trans SZ.out h6.size); have NV_ := Lib.hid (NV.out.under h6 (fun b o e => by have := NVb.out b o e; have := V5v2.out; have := SZv2.out; omega)); have NU_ := Lib.hid (NU.out.under h6 (fun b o e => by have := NUb.out b o e; have := V5v2.out; omega)); clear HX HR RN ROW HB SZ h6 hgr hrow X2 Xl NV NU; have HX := HX_; have HR := HR_; have RN := RN_; have ROW := ROW_; have HB := HB_; have SZ := SZ_; have NV := NV_; have NU := NU_; clear HX_ HR_ RN_ ROW_ HB_ SZ_ NV_ NU_; have X2 := HX.out.at 2 _ rfl; have Xf2 := HX.out.ok 2 (by simp); have Xl := HX.out.lt)
              clear X2 Xf2 Xl
              rw [show w6.setCell ⟨X, 2, none⟩ (.slice p' (k + 1) c') = w6.setCells X 2 [.slice p' (k + 1) c'] from rfl]
              have hbm : But X w6 (w6.setCells X 2 [.slice p' (k + 1) c']) := But.store
              have HX_ : Hid (Own X [.slice pv n cv, .slice pu n cu, (.slice p' (k + 1) c')] (w6.setCells X 2 [.slice p' (k + 1) c'])) := Lib.hid (show Own X (over _ 2 [.slice p' (k + 1) c']) _ from Own.part HX.out (by simp))
              have HR_ := Lib.hid (HR.out.but hbm nRX); have RN_ := Lib.hid (RN.out.far hbm nSX nDX); have ROW_ := Lib.hid (row_but ROW.out hbm (row_ne ROW.out Xv2.out))
              have HB_ : Hid (Below w.heap.size w (w6.setCells X 2 [.slice p' (k + 1) c'])) := Lib.hid (Below.setCells HB.out XW.out _ _); have SZ_ := Lib.hid (Nat.le_trans SZ.out hbm.below.size)
              have NV_ := Lib.hid (NV.out.but hbm (fun b o e => by have := NVb.out b o e; have := X5.out; have := SZv1.out; omega))
              have NU_ := Lib.hid (NU.out.but hbm (fun b o e => by have := NUb.out b o e; have := X5.out; have := SZv1.out; omega))
              clear HX HR RN ROW HB SZ hbm NV NU
              generalize w6.setCells X 2 [.slice p' (k + 1) c'] = w7 at *
              have HX := HX_
              clear HX_
              have HR := HR_
              clear HR_
              have RN := RN_
              clear RN_
              have ROW := ROW_
              clear ROW_
              have HB := HB_
              clear HB_
              have SZ := SZ_
              clear SZ_
              have NV := NV_
              clear NV_
              have NU := NU_
              clear NU_
              have RN_ : Hid (RRn w7 S D F N (2 + n * 10 + (k + 1) * 3)) := Lib.hid (by rw [← TN.out]; exact RN.out)
              clear RN XS TN N63 NBY HS2 C0 C1 C2
              go_roundw
              case rel => (first | exact ⟨k + 1, p', c', HLT.out, by go_num, HX, ROW, RN_, HR, HB, SZ, NV, NU⟩ | ((repeat apply Exists.intro); exact ⟨⟨k + 1, p', c', HLT.out, by go_num, HX, ROW, RN_, HR, HB, SZ, NV, NU⟩, rfl⟩))
              case measure => (have := HLT.out; simp [intOf]; omega)
            · obtain rfl : m = k := by omega
              clear hlt hk
              obtain ⟨v3, ewr⟩ : ∃ x, x = wr := ⟨_, rfl⟩
              subst ewr
              obtain ⟨pt, ewr⟩ : ∃ x, x = p := ⟨_, rfl⟩
              subst ewr
              obtain ⟨ct, ewr⟩ : ∃ x, x = c0 := ⟨_, rfl⟩
              subst ewr
              have nr := nms_row (s := 3) ROW.out
              have NT := Lib.hid nr.2.1; have NTb := Lib.hid nr.2.2.2.2; have NTc := Lib.hid (And.intro nr.2.2.1 nr.2.2.2.1)
              have SZv3 := SZ
              clear ROW SZ nr
              have HM : Hid (MeshAt ⟨pv, n, cv, GV, pu, n, cu, GU, pt, m, ct, GR⟩ v3) := Lib.hid ⟨NV.out, NU.out, NT.out, NVc.out.1, NUc.out.1, NTc.out.1, NVc.out.2, NUc.out.2, NTc.out.2⟩
              have RE := Lib.hid (show RRn v3 S D F N TT by rw [ET.out]; exact RN.out)
              have EN := Lib.hid (RREnd_any RE.out)
              rw [dec_end] at EN
              obtain ⟨e1, hee⟩ : ∃ e, (if N < TT then (4 : Int) else if TT < N then 5 else 0) = e := ⟨_, rfl⟩
              rw [hee] at EN
              have EE := Lib.hid hee
              clear hee RN RE NV NU NT NVc NUc NTc
              go_wp2_with (fail)
              go_at_call 30
              refine EN.out.mono ?_
              rintro e w8 ⟨rfl, hb⟩
              have HX_ := Lib.hid (HX.out.later hb); have HR_ := Lib.hid (HR.out.later hb); have HM_ := Lib.hid (HM.out.later hb); have HB_ := Lib.hid (Below.go HB.out hb)
              have NVr : Hid (∀ b o, pv = some ⟨b, o, none⟩ → b ≠ R) := Lib.hid (fun b o e => by have := NVb.out b o e; have := R5.out; omega)
              have NUr : Hid (∀ b o, pu = some ⟨b, o, none⟩ → b ≠ R) := Lib.hid (fun b o e => by have := NUb.out b o e; have := Rv1.out; omega)
              have NTr : Hid (∀ b o, pt = some ⟨b, o, none⟩ → b ≠ R) := Lib.hid (fun b o e => by have := NTb.out b o e; have := Rv2.out; omega)
              clear HX HR HM HB hb EN
              have HX := HX_
              clear HX_
              have HR := HR_
              clear HR_
              have HM := HM_
              clear HM_
              have HB := HB_
              clear HB_
              by_cases h1 : e1 = 0
              · subst h1
                have EC : Hid (z = chkF n n m GV GU GR) := Lib.hid (by
                  have h := DE.out; have hee := EE.out
                  by_cases a : N < TT
                  · rw [if_pos a] at hee; omega
                  · rw [if_neg a] at h hee
                    by_cases b : TT < N
                    · rw [if_pos b] at hee; omega
                    · rw [if_neg b] at h; exact h)
                clear DE EE
                have oX := HX.out
                have X0 := oX.at 0 _ rfl
                have X1 := oX.at 1 _ rfl
                have X2 := oX.at 2 _ rfl
                have Xl := oX.lt
                clear oX
                go_wp2_with (fail)
                go_at_call 12
                refine (RCheck_any ⟨pv, n, cv, GV, pu, n, cu, GU, pt, m, ct, GR⟩ _ HM.out).mono ?_
                rintro e w9 ⟨rfl, hb⟩
                rw [show chkM ⟨pv, n, cv, GV, pu, n, cu, GU, pt, m, ct, GR⟩ = z from EC.out.symm]
                have HX_ := Lib.hid (HX.out.later hb); have HR_ := Lib.hid (HR.out.later hb); have HM_ := Lib.hid (HM.out.later hb); have HB_ := Lib.hid (Below.go HB.out hb)
                clear HX HR HM HB hb EC X0 X1 X2 Xl
                have HX := HX_
                clear HX_
                have HR := HR_
                clear HR_
                have HM := HM_
                clear HM_
                have HB := HB_
                clear HB_
                by_cases hz : z = 0
                · subst hz
                  have HD := Lib.hid (MK.out ⟨pv, n, cv, GV, pu, n, cu, GU, pt, m, ct, GR⟩ rfl rfl rfl rfl rfl rfl rfl)
                  clear MK NO
                  have oX := HX.out
                  have X0 := oX.at 0 _ rfl
                  have X1 := oX.at 1 _ rfl
                  have X2 := oX.at 2 _ rfl
                  have Xl := oX.lt
                  clear oX
                  have oR := HR.out
                  have R0 := oR.at 0 _ rfl
                  have Rf0 := oR.ok 0 (by simp)
                  have R1 := oR.at 1 _ rfl
                  have Rf1 := oR.ok 1 (by simp)
                  have R2 := oR.at 2 _ rfl
                  have Rf2 := oR.ok 2 (by simp)
                  have Rl := oR.lt
                  clear oR
                  go_wp2_with (fail)
                  change bodyPost _ _ _ _ _ (w9.setCells R 0 [.slice pv n cv, .slice pu n cu, .slice pt m ct])
                  have HR9 : Own R [.slice pv n cv, .slice pu n cu, .slice pt m ct] (w9.setCells R 0 [.slice pv n cv, .slice pu n cu, .slice pt m ct]) := Own.store HR.out rfl
                  have HB9 : Below w.heap.size w (w9.setCells R 0 [.slice pv n cv, .slice pu n cu, .slice pt m ct]) := Below.setCells HB.out RW.out _ _
                  have hbm : But R w9 (w9.setCells R 0 [.slice pv n cv, .slice pu n cu, .slice pt m ct]) := But.store
                  have HM9 : MeshAt ⟨pv, n, cv, GV, pu, n, cu, GU, pt, m, ct, GR⟩ (w9.setCells R 0 [.slice pv n cv, .slice pu n cu, .slice pt m ct]) := ⟨HM.out.v.but hbm NVr.out, HM.out.u.but hbm NUr.out, HM.out.t.but hbm NTr.out, HM.out.lv, HM.out.lu, HM.out.lt, HM.out.mv, HM.out.mu, HM.out.mt⟩
                  have hL := run_loadVar_mid (P := Try.prog) _ R 0 26 [.slice pv n cv, .slice pu n cu, .slice pt m ct] _ HR9.cell Try.underlying26 rfl (by kernel_rfl)
                  exact bodyPost_ret (v := .tuple #[.agg ([.slice pv n cv, .slice pu n cu, .slice pt m ct] : List Value).toArray, .int .i64 0]) (res_two Try.results16 rfl hL rfl) rfl ⟨⟨_, rfl, HM9, HD.out⟩, HB9⟩
                · have hd : (z != 0) = true := by simpa using hz
                  have HD := Lib.hid (NO.out hz)
                  clear MK NO HM HX
                  have oR := HR.out
                  have R0 := oR.at 0 _ rfl
                  have Rf0 := oR.ok 0 (by simp)
                  have R1 := oR.at 1 _ rfl
                  have Rf1 := oR.ok 1 (by simp)
                  have R2 := oR.at 2 _ rfl
                  have Rf2 := oR.ok 2 (by simp)
                  have Rl := oR.lt
                  clear oR
                  go_wp2_with (fail)
                  have hL := run_loadVar_mid (P := Try.prog) _ R 0 26 [.slice none 0 0, .slice none 0 0, .slice none 0 0] _ HR.out.cell Try.underlying26 rfl (by kernel_rfl)
                  exact bodyPost_ret (v := .tuple #[.agg ([.slice none 0 0, .slice none 0 0, .slice none 0 0] : List Value).toArray, .int .i64 z]) (res_two Try.results16 rfl hL rfl) rfl ⟨⟨nilM, rfl, nilM_at _, HD.out⟩, HB.out⟩
              · have ez : z = e1 := by
                  have h := DE.out; have hee := EE.out
                  by_cases a : N < TT
                  · rw [if_pos a] at hee h; omega
                  · rw [if_neg a] at h hee
                    by_cases b : TT < N
                    · rw [if_pos b] at hee h; omega
                    · rw [if_neg b] at hee; exact absurd hee.symm h1
                subst ez
                have hd : (z != 0) = true := by simpa using h1
                have HD := Lib.hid (NO.out h1)
                clear MK NO DE EE h1 HX HM
                have oR := HR.out
                have R0 := oR.at 0 _ rfl
                have Rf0 := oR.ok 0 (by simp)
                have R1 := oR.at 1 _ rfl
                have Rf1 := oR.ok 1 (by simp)
                have R2 := oR.at 2 _ rfl
                have Rf2 := oR.ok 2 (by simp)
                have Rl := oR.lt
                clear oR
                go_wp2_with (fail)
                have hL := run_loadVar_mid (P := Try.prog) _ R 0 26 [.slice none 0 0, .slice none 0 0, .slice none 0 0] _ HR.out.cell Try.underlying26 rfl (by kernel_rfl)
                exact bodyPost_ret (v := .tuple #[.agg ([.slice none 0 0, .slice none 0 0, .slice none 0 0] : List Value).toArray, .int .i64 z]) (res_two Try.results16 rfl hL rfl) rfl ⟨⟨nilM, rfl, nilM_at _, HD.out⟩, HB.out⟩
end Go.Proofs.Ytnopcgkhoennfaa

/- SR -/
namespace Go.Proofs.Ytnopcgkhoennfaa
set_option linter.unusedVariables false
set_option maxRecDepth 2000
set_option linter.unusedSimpArgs false
open Go.RowKit
theorem eqP_self (a b c : Int) (w : World) : (binOp .eql 46 (.agg #[.int .i64 a, .int .i64 b, .int .i64 c]) (.agg #[.int .i64 a, .int .i64 b, .int .i64 c])).run Try.prog w = .ok (.bool true) w := by simp [go_sem]
theorem neqP_self (a b c : Int) (w : World) : (binOp .neq 46 (.agg #[.int .i64 a, .int .i64 b, .int .i64 c]) (.agg #[.int .i64 a, .int .i64 b, .int .i64 c])).run Try.prog w = .ok (.bool false) w := by simp [go_sem]
theorem eq_arr2 (d : Nat) (a b : Int) (w : World) : (Op.equalIn (d + 2) 48 (.agg #[.int .i64 a, .int .i64 b]) (.agg #[.int .i64 a, .int .i64 b])).run Try.prog w = .ok true w := by
  unfold Op.equalIn
  simp [run_underlying Try.underlying48, go_sem, List.range']
theorem neqU_self (a b : Int) (w : World) : (binOp .neq 48 (.agg #[.int .i64 a, .int .i64 b]) (.agg #[.int .i64 a, .int .i64 b])).run Try.prog w = .ok (.bool false) w := by
  have h := eq_arr2 9998 a b w
  simp [go_sem, h]
theorem eq_arr3 (d : Nat) (a b c : Int) (w : World) : (Op.equalIn (d + 2) 52 (.agg #[.int .i64 a, .int .i64 b, .int .i64 c]) (.agg #[.int .i64 a, .int .i64 b, .int .i64 c])).run Try.prog w = .ok true w := by
  unfold Op.equalIn
  simp [run_underlying Try.underlying52, go_sem, List.range']
theorem neqT_self (a b c : Int) (w : World) : (binOp .neq 52 (.agg #[.int .i64 a, .int .i64 b, .int .i64 c]) (.agg #[.int .i64 a, .int .i64 b, .int .i64 c])).run Try.prog w = .ok (.bool false) w := by
  have h := eq_arr3 9998 a b c w
  simp [go_sem, h]
attribute [local go_sem ↓] neqP_self neqU_self neqT_self
set_option maxHeartbeats 8000000 in
theorem Same_yes (M Y : Msh) (w : World) (hM : MeshAt M w) (hY : MeshAt Y w) (e1 : M.nv = Y.nv) (e2 : M.nu = Y.nu) (e3 : M.nt = Y.nt) (ev : ∀ j, j < M.nv * 3 → M.V j = Y.V j) (eu : ∀ j, j < M.nu * 2 → M.U j = Y.U j) (et : ∀ j, j < M.nt * 3 → M.R j = Y.R j)
    (bn : M.nv ≤ 1000 ∧ M.nu ≤ 1000 ∧ M.nt ≤ 1000) :
    Calls Try.prog 17 #[(.agg #[.slice M.qv M.nv M.cv, .slice M.qu M.nu M.cu, .slice M.qt M.nt M.ct]), (.agg #[.slice Y.qv Y.nv Y.cv, .slice Y.qu Y.nu Y.cu, .slice Y.qt Y.nt Y.ct])] w fun e w' => e = .returned (.bool true) ∧ Below w.heap.size w w' := by
  obtain ⟨qv, nv, cv, V, qu, nu, cu, U, qt, nt, ct, R⟩ := M
  obtain ⟨pv, nv2, dv, V2, pu, nu2, du, U2, pt, nt2, dt, R2⟩ := Y
  dsimp only at *
  subst e1 e2 e3
  have HMv := Lib.hid hM.v; have HMu := Lib.hid hM.u; have HMt := Lib.hid hM.t
  have HYv := Lib.hid hY.v; have HYu := Lib.hid hY.u; have HYt := Lib.hid hY.t
  dsimp only at *
  have EV := Lib.hid ev; have EU := Lib.hid eu; have ET := Lib.hid et
  have BN := Lib.hid bn
  clear hM hY ev eu et bn
  go_enter Try.func17, Try.ntmps17
  go_upto_region 1 with fail
  obtain ⟨W0, hW⟩ : ∃ W0, W0 = ((w.alloc (.cells #[.slice qv nv cv, .slice qu nu cu, .slice qt nt ct] 26)).alloc (.cells #[.slice pv nv dv, .slice pu nu du, .slice pt nt dt] 26)) := ⟨_, rfl⟩
  have hB0 : Below w.heap.size w W0 := hW ▸ (Below.al (Below.al (Below.refl _ _)))
  have HA : Hid (Own w.heap.size [.slice qv nv cv, .slice qu nu cu, .slice qt nt ct] W0) := Lib.hid (hW ▸ (Own.newAt (by simp)).alloc)
  have HBx : Hid (Own (w.heap.size + 1) [.slice pv nv dv, .slice pu nu du, .slice pt nt dt] W0) := Lib.hid (hW ▸ (Own.newAt (by simp)))
  rw [← hW]
  clear hW
  obtain ⟨B, eB⟩ : ∃ X, X = (w.heap.size + 1) := ⟨_, rfl⟩
  rw [← eB] at HBx ⊢
  have Bw : w.heap.size ≤ B := by omega
  obtain ⟨A, eA⟩ : ∃ X, X = w.heap.size := ⟨_, rfl⟩
  rw [← eA] at HA ⊢
  have Aw : w.heap.size ≤ A := by omega
  have nAB : A ≠ B := by omega
  have nBA : B ≠ A := by omega
  clear eA eB
  have HB := Lib.hid hB0
  clear hB0
  have oA := HA.out
  have A0 := oA.at 0 _ rfl
  have A1 := oA.at 1 _ rfl
  have A2 := oA.at 2 _ rfl
  have Al := oA.lt
  clear oA
  have oB := HBx.out
  have B0 := oB.at 0 _ rfl
  have B1 := oB.at 1 _ rfl
  have B2 := oB.at 2 _ rfl
  have Bl := oB.lt
  clear oB
  go_upto_region 3 with fail
  clear A0 A1 A2 Al B0 B1 B2 Bl
  go_wp2_with (fail)
  go_loopw [5] (fun iv wr => ∃ (k : Nat), k ≤ nv ∧ iv = .int .i64 k ∧ Hid (Own A [.slice qv nv cv, .slice qu nu cu, .slice qt nt ct] wr) ∧ Hid (Own B [.slice pv nv dv, .slice pu nu du, .slice pt nt dt] wr) ∧ Hid (Below w.heap.size w wr)) (fun iv _ => (nv - (intOf iv).toNat))
  case atStart => exact ⟨0, Nat.zero_le _, rfl, HA, HBx, HB⟩
  case round =>
    clear HA HBx HB
    obtain ⟨k, hk, rfl, HA, HBx, HB⟩ := hrel
    by_cases hlt : k < nv
    · obtain ⟨D, o, eq1, hD, c0, c1, c2⟩ := (HMv.out.later HB.out).at3 hlt
      obtain ⟨D2, o2, eq2, hD2, d0, d1, d2⟩ := (HYv.out.later HB.out).at3 hlt
      have hki : (k : Int) < (nv : Int) := by omega
      have k0 : (0 : Int) ≤ (k : Int) := by omega
      have wk : IntKind.i64.wrap ((k : Int) + 1) = (k : Int) + 1 := IntWalk.i64_in _ (by have := BN.out; omega)
      subst eq1 eq2
      rw [← EV.out (k * 3) (by omega)] at d0
      rw [← EV.out (k * 3 + 1) (by omega)] at d1
      rw [← EV.out (k * 3 + 2) (by omega)] at d2
      generalize V (k * 3) = x0 at c0 d0
      generalize V (k * 3 + 1) = x1 at c1 d1
      generalize V (k * 3 + 2) = x2 at c2 d2
      have HLT := Lib.hid hlt
      clear hk hlt
      have oA := HA.out
      have A0 := oA.at 0 _ rfl
      have Al := oA.lt
      clear oA
      have oB := HBx.out
      have B0 := oB.at 0 _ rfl
      have Bl := oB.lt
      clear oB
      go_wp2_with (fail)
      go_quiet (fail)
      have hBd : Below wr.heap.size wr (wr.drewN nq) := below_drewN (Below.refl _ _) _
      have HA_ := Lib.hid (HA.out.later hBd); have HBx_ := Lib.hid (HBx.out.later hBd); have HB_ := Lib.hid (Below.go HB.out hBd)
      clear HA HBx HB hBd hD hD2 A0 Al B0 Bl c0 d0 c1 d1 c2 d2
      generalize wr.drewN nq = z1 at *
      go_wp2_with (fail)
      go_roundw
      case rel => (first | exact ⟨k + 1, HLT.out, by go_num, HA_, HBx_, HB_⟩ | ((repeat apply Exists.intro); exact ⟨⟨k + 1, HLT.out, by go_num, HA_, HBx_, HB_⟩, rfl⟩))
      case measure => (have := HLT.out; simp [intOf]; omega)
    · obtain rfl : nv = k := by omega
      clear hlt hk
      have oA := HA.out
      have A0 := oA.at 0 _ rfl
      have Al := oA.lt
      clear oA
      go_wp2_with (fail)
      clear A0 Al
      go_loopw [6] (fun iv wr => ∃ (k : Nat), k ≤ nu ∧ iv = .int .i64 k ∧ Hid (Own A [.slice qv nv cv, .slice qu nu cu, .slice qt nt ct] wr) ∧ Hid (Own B [.slice pv nv dv, .slice pu nu du, .slice pt nt dt] wr) ∧ Hid (Below w.heap.size w wr)) (fun iv _ => (nu - (intOf iv).toNat))
      case atStart => exact ⟨0, Nat.zero_le _, rfl, HA, HBx, HB⟩
      case round =>
        clear HA HBx HB
        obtain ⟨k, hk, rfl, HA, HBx, HB⟩ := hrel
        by_cases hlt : k < nu
        · obtain ⟨D, o, eq1, hD, c0, c1⟩ := (HMu.out.later HB.out).at2 hlt
          obtain ⟨D2, o2, eq2, hD2, d0, d1⟩ := (HYu.out.later HB.out).at2 hlt
          have hki : (k : Int) < (nu : Int) := by omega
          have k0 : (0 : Int) ≤ (k : Int) := by omega
          have wk : IntKind.i64.wrap ((k : Int) + 1) = (k : Int) + 1 := IntWalk.i64_in _ (by have := BN.out; omega)
          subst eq1 eq2
          rw [← EU.out (k * 2) (by omega)] at d0
          rw [← EU.out (k * 2 + 1) (by omega)] at d1
          generalize U (k * 2) = x0 at c0 d0
          generalize U (k * 2 + 1) = x1 at c1 d1
          have HLT := Lib.hid hlt
          clear hk hlt
          have oA := HA.out
          have A1 := oA.at 1 _ rfl
          have Al := oA.lt
          clear oA
          have oB := HBx.out
          have B1 := oB.at 1 _ rfl
          have Bl := oB.lt
          clear oB
          go_wp2_with (fail)
          go_quiet (fail)
          have hBd : Below wr.heap.size wr (wr.drewN nq) := below_drewN (Below.refl _ _) _
          have HA_ := Lib.hid (HA.out.later hBd); have HBx_ := Lib.hid (HBx.out.later hBd); have HB_ := Lib.hid (Below.go HB.out hBd)
          clear HA HBx HB hBd hD hD2 A1 Al B1 Bl c0 d0 c1 d1
          generalize wr.drewN nq = z1 at *
          go_wp2_with (fail)
          go_roundw
          case rel => (first | exact ⟨k + 1, HLT.out, by go_num, HA_, HBx_, HB_⟩ | ((repeat apply Exists.intro); exact ⟨⟨k + 1, HLT.out, by go_num, HA_, HBx_, HB_⟩, rfl⟩))
          case measure => (have := HLT.out; simp [intOf]; omega)
        · obtain rfl : nu = k := by omega
          clear hlt hk
          have oA := HA.out
          have A1 := oA.at 1 _ rfl
          have Al := oA.lt
          clear oA
          go_wp2_with (fail)
          clear A1 Al
          go_loopw [7] (fun iv wr => ∃ (k : Nat), k ≤ nt ∧ iv = .int .i64 k ∧ Hid (Own A [.slice qv nv cv, .slice qu nu cu, .slice qt nt ct] wr) ∧ Hid (Own B [.slice pv nv dv, .slice pu nu du, .slice pt nt dt] wr) ∧ Hid (Below w.heap.size w wr)) (fun iv _ => (nt - (intOf iv).toNat))
          case atStart => exact ⟨0, Nat.zero_le _, rfl, HA, HBx, HB⟩
          case round =>
            clear HA HBx HB
            obtain ⟨k, hk, rfl, HA, HBx, HB⟩ := hrel
            by_cases hlt : k < nt
            · obtain ⟨D, o, eq1, hD, c0, c1, c2⟩ := (HMt.out.later HB.out).at3 hlt
              obtain ⟨D2, o2, eq2, hD2, d0, d1, d2⟩ := (HYt.out.later HB.out).at3 hlt
              have hki : (k : Int) < (nt : Int) := by omega
              have k0 : (0 : Int) ≤ (k : Int) := by omega
              have wk : IntKind.i64.wrap ((k : Int) + 1) = (k : Int) + 1 := IntWalk.i64_in _ (by have := BN.out; omega)
              subst eq1 eq2
              rw [← ET.out (k * 3) (by omega)] at d0
              rw [← ET.out (k * 3 + 1) (by omega)] at d1
              rw [← ET.out (k * 3 + 2) (by omega)] at d2
              generalize R (k * 3) = x0 at c0 d0
              generalize R (k * 3 + 1) = x1 at c1 d1
              generalize R (k * 3 + 2) = x2 at c2 d2
              have HLT := Lib.hid hlt
              clear hk hlt
              have oA := HA.out
              have A2 := oA.at 2 _ rfl
              have Al := oA.lt
              clear oA
              have oB := HBx.out
              have B2 := oB.at 2 _ rfl
              have Bl := oB.lt
              clear oB
              go_wp2_with (fail)
              go_quiet (fail)
              have hBd : Below wr.heap.size wr (wr.drewN nq) := below_drewN (Below.refl _ _) _
              have HA_ := Lib.hid (HA.out.later hBd); have HBx_ := Lib.hid (HBx.out.later hBd); have HB_ := Lib.hid (Below.go HB.out hBd)
              clear HA HBx HB hBd hD hD2 A2 Al B2 Bl c0 d0 c1 d1 c2 d2
              generalize wr.drewN nq = z1 at *
              go_wp2_with (fail)
              go_roundw
              case rel => (first | exact ⟨k + 1, HLT.out, by go_num, HA_, HBx_, HB_⟩ | ((repeat apply Exists.intro); exact ⟨⟨k + 1, HLT.out, by go_num, HA_, HBx_, HB_⟩, rfl⟩))
              case measure => (have := HLT.out; simp [intOf]; omega)
            · obtain rfl : nt = k := by omega
              clear hlt hk
              have oA := HA.out
              have A2 := oA.at 2 _ rfl
              have Al := oA.lt
              clear oA
              go_wp2_with (fail)
              go_ret
              exact ⟨rfl, HB.out⟩
end Go.Proofs.Ytnopcgkhoennfaa

/- SS -/
namespace Go.Proofs.Ytnopcgkhoennfaa
set_option linter.unusedVariables false
set_option maxRecDepth 2000
set_option linter.unusedSimpArgs false
open Go.RowKit
def wkV (j : Nat) : Int := [(0 : Int), 0, 0, 5, 0, 0, 0, 7, 0].getD j 0
def wkU (_ : Nat) : Int := 0
def wkR (j : Nat) : Int := [(0 : Int), 1, 2].getD j 0
theorem wk_box {l0 l1 l2 h0 h1 h2 : Int} (h : Box3 wkV wkR 3 3 l0 l1 l2 h0 h1 h2) : h0 = 5 ∧ h1 = 7 ∧ h2 = 0 := by
  obtain ⟨b0, b1, b2⟩ := h
  refine ⟨?_, ?_, ?_⟩
  · obtain ⟨j, hj, e⟩ := b0.hi
    have h1 := (b0.all 1 (by decide)).2
    rw [show crn wkV wkR 1 0 = 5 from rfl] at h1
    match j, hj with
    | 0, _ => rw [show crn wkV wkR 0 0 = 0 from rfl] at e; omega
    | 1, _ => rw [show crn wkV wkR 1 0 = 5 from rfl] at e; omega
    | 2, _ => rw [show crn wkV wkR 2 0 = 0 from rfl] at e; omega
  · obtain ⟨j, hj, e⟩ := b1.hi
    have h1 := (b1.all 2 (by decide)).2
    rw [show crn wkV wkR 2 1 = 7 from rfl] at h1
    match j, hj with
    | 0, _ => rw [show crn wkV wkR 0 1 = 0 from rfl] at e; omega
    | 1, _ => rw [show crn wkV wkR 1 1 = 0 from rfl] at e; omega
    | 2, _ => rw [show crn wkV wkR 2 1 = 7 from rfl] at e; omega
  · obtain ⟨j, hj, e⟩ := b2.hi
    match j, hj with
    | 0, _ => rw [show crn wkV wkR 0 2 = 0 from rfl] at e; omega
    | 1, _ => rw [show crn wkV wkR 1 2 = 0 from rfl] at e; omega
    | 2, _ => rw [show crn wkV wkR 2 2 = 0 from rfl] at e; omega
attribute [local go_sem ↓] eqP_self
set_option maxHeartbeats 8000000 in
theorem works_any (w : World) : Calls Try.prog 14 #[] w fun e w' => e = .returned (.bool true) ∧ Below w.heap.size w w' := by
  go_enter Try.func14, Try.ntmps14
  go_upto_region 2 with fail
  have HV := Lib.hid (show Has w.heap.size 0 (nums .i64 wkV (3 * 3)) ((((w.alloc (.cells #[.int .i64 0, .int .i64 0, .int .i64 0, .int .i64 5, .int .i64 0, .int .i64 0, .int .i64 0, .int .i64 7, .int .i64 0] 46)).alloc (.cells #[.int .i64 0, .int .i64 0, .int .i64 0, .int .i64 0, .int .i64 0, .int .i64 0] 48)).alloc (.cells #[.int .i64 0, .int .i64 1, .int .i64 2] 52)).alloc (.cells #[.slice (some ⟨w.heap.size, 0, none⟩) 3 3, .slice (some ⟨w.heap.size + 1, 0, none⟩) 3 3, .slice (some ⟨w.heap.size + 1 + 1, 0, none⟩) 1 1] 26)) from (Own.newAt (b := w.heap.size) (cs := #[.int .i64 0, .int .i64 0, .int .i64 0, .int .i64 5, .int .i64 0, .int .i64 0, .int .i64 0, .int .i64 7, .int .i64 0]) rfl).alloc.alloc.alloc.has)
  have HU := Lib.hid (show Has (w.heap.size + 1) 0 (nums .i64 wkU (3 * 2)) ((((w.alloc (.cells #[.int .i64 0, .int .i64 0, .int .i64 0, .int .i64 5, .int .i64 0, .int .i64 0, .int .i64 0, .int .i64 7, .int .i64 0] 46)).alloc (.cells #[.int .i64 0, .int .i64 0, .int .i64 0, .int .i64 0, .int .i64 0, .int .i64 0] 48)).alloc (.cells #[.int .i64 0, .int .i64 1, .int .i64 2] 52)).alloc (.cells #[.slice (some ⟨w.heap.size, 0, none⟩) 3 3, .slice (some ⟨w.heap.size + 1, 0, none⟩) 3 3, .slice (some ⟨w.heap.size + 1 + 1, 0, none⟩) 1 1] 26)) from (Own.newAt (b := w.heap.size + 1) (W := (w.alloc (.cells #[.int .i64 0, .int .i64 0, .int .i64 0, .int .i64 5, .int .i64 0, .int .i64 0, .int .i64 0, .int .i64 7, .int .i64 0] 46))) (cs := #[.int .i64 0, .int .i64 0, .int .i64 0, .int .i64 0, .int .i64 0, .int .i64 0]) (by simp)).alloc.alloc.has)
  have HT := Lib.hid (show Has (w.heap.size + 1 + 1) 0 (nums .i64 wkR (1 * 3)) ((((w.alloc (.cells #[.int .i64 0, .int .i64 0, .int .i64 0, .int .i64 5, .int .i64 0, .int .i64 0, .int .i64 0, .int .i64 7, .int .i64 0] 46)).alloc (.cells #[.int .i64 0, .int .i64 0, .int .i64 0, .int .i64 0, .int .i64 0, .int .i64 0] 48)).alloc (.cells #[.int .i64 0, .int .i64 1, .int .i64 2] 52)).alloc (.cells #[.slice (some ⟨w.heap.size, 0, none⟩) 3 3, .slice (some ⟨w.heap.size + 1, 0, none⟩) 3 3, .slice (some ⟨w.heap.size + 1 + 1, 0, none⟩) 1 1] 26)) from (Own.newAt (b := w.heap.size + 1 + 1) (W := ((w.alloc (.cells #[.int .i64 0, .int .i64 0, .int .i64 0, .int .i64 5, .int .i64 0, .int .i64 0, .int .i64 0, .int .i64 7, .int .i64 0] 46)).alloc (.cells #[.int .i64 0, .int .i64 0, .int .i64 0, .int .i64 0, .int .i64 0, .int .i64 0] 48))) (cs := #[.int .i64 0, .int .i64 1, .int .i64 2]) (by simp)).alloc.has)
  have HX := Lib.hid (show Own (w.heap.size + 1 + 1 + 1) [.slice (some ⟨w.heap.size, 0, none⟩) 3 3, .slice (some ⟨w.heap.size + 1, 0, none⟩) 3 3, .slice (some ⟨w.heap.size + 1 + 1, 0, none⟩) 1 1] ((((w.alloc (.cells #[.int .i64 0, .int .i64 0, .int .i64 0, .int .i64 5, .int .i64 0, .int .i64 0, .int .i64 0, .int .i64 7, .int .i64 0] 46)).alloc (.cells #[.int .i64 0, .int .i64 0, .int .i64 0, .int .i64 0, .int .i64 0, .int .i64 0] 48)).alloc (.cells #[.int .i64 0, .int .i64 1, .int .i64 2] 52)).alloc (.cells #[.slice (some ⟨w.heap.size, 0, none⟩) 3 3, .slice (some ⟨w.heap.size + 1, 0, none⟩) 3 3, .slice (some ⟨w.heap.size + 1 + 1, 0, none⟩) 1 1] 26)) from Own.newAt (by simp))
  have HB : Hid (Below w.heap.size w ((((w.alloc (.cells #[.int .i64 0, .int .i64 0, .int .i64 0, .int .i64 5, .int .i64 0, .int .i64 0, .int .i64 0, .int .i64 7, .int .i64 0] 46)).alloc (.cells #[.int .i64 0, .int .i64 0, .int .i64 0, .int .i64 0, .int .i64 0, .int .i64 0] 48)).alloc (.cells #[.int .i64 0, .int .i64 1, .int .i64 2] 52)).alloc (.cells #[.slice (some ⟨w.heap.size, 0, none⟩) 3 3, .slice (some ⟨w.heap.size + 1, 0, none⟩) 3 3, .slice (some ⟨w.heap.size + 1 + 1, 0, none⟩) 1 1] 26))) := Lib.hid (Below.al (Below.al (Below.al (Below.al (Below.refl _ _)))))
  generalize ((((w.alloc (.cells #[.int .i64 0, .int .i64 0, .int .i64 0, .int .i64 5, .int .i64 0, .int .i64 0, .int .i64 0, .int .i64 7, .int .i64 0] 46)).alloc (.cells #[.int .i64 0, .int .i64 0, .int .i64 0, .int .i64 0, .int .i64 0, .int .i64 0] 48)).alloc (.cells #[.int .i64 0, .int .i64 1, .int .i64 2] 52)).alloc (.cells #[.slice (some ⟨w.heap.size, 0, none⟩) 3 3, .slice (some ⟨w.heap.size + 1, 0, none⟩) 3 3, .slice (some ⟨w.heap.size + 1 + 1, 0, none⟩) 1 1] 26)) = W0 at *
  obtain ⟨X, eX⟩ : ∃ X, X = w.heap.size + 1 + 1 + 1 := ⟨_, rfl⟩
  rw [← eX] at HX ⊢
  obtain ⟨T, eT⟩ : ∃ X, X = w.heap.size + 1 + 1 := ⟨_, rfl⟩
  rw [← eT] at HX HT ⊢
  obtain ⟨U, eU⟩ : ∃ X, X = w.heap.size + 1 := ⟨_, rfl⟩
  rw [← eU] at HX HU ⊢
  obtain ⟨V, eV⟩ : ∃ X, X = w.heap.size := ⟨_, rfl⟩
  rw [← eV] at HX HV ⊢
  have HM : Hid (MeshAt ⟨some ⟨V, 0, none⟩, 3, 3, wkV, some ⟨U, 0, none⟩, 3, 3, wkU, some ⟨T, 0, none⟩, 1, 1, wkR⟩ W0) := Lib.hid ⟨.inr ⟨V, 0, rfl, HV.out⟩, .inr ⟨U, 0, rfl, HU.out⟩, .inr ⟨T, 0, rfl, HT.out⟩, Nat.le_refl _, Nat.le_refl _, Nat.le_refl _, (show 3 ≤ 9223372036854775807 by decide), (show 3 ≤ 9223372036854775807 by decide), (show 1 ≤ 9223372036854775807 by decide)⟩
  have hc : chkM ⟨some ⟨V, 0, none⟩, 3, 3, wkV, some ⟨U, 0, none⟩, 3, 3, wkU, some ⟨T, 0, none⟩, 1, 1, wkR⟩ = 0 := by show chkF 3 3 1 wkV wkU wkR = 0; decide
  have EN := Lib.hid (Encode_any ⟨some ⟨V, 0, none⟩, 3, 3, wkV, some ⟨U, 0, none⟩, 3, 3, wkU, some ⟨T, 0, none⟩, 1, 1, wkR⟩); have BX := Lib.hid (Box_yes ⟨some ⟨V, 0, none⟩, 3, 3, wkV, some ⟨U, 0, none⟩, 3, 3, wkU, some ⟨T, 0, none⟩, 1, 1, wkR⟩)
  rw [hc] at EN
  have HC := Lib.hid hc
  rw [show encL 0 (encN 3 3 1) = 35 from rfl] at EN
  generalize encF 3 3 1 wkV wkU wkR = EF at *
  clear hc HV HU HT eX eT eU eV
  have oX := HX.out
  have X0 := oX.at 0 _ rfl
  have X1 := oX.at 1 _ rfl
  have X2 := oX.at 2 _ rfl
  have Xl := oX.lt
  clear oX
  go_wp2_with (fail)
  go_at_call 9
  refine (EN.out _ HM.out).mono ?_
  rintro e w1 ⟨⟨v, rfl, q, c, rfl, _, _, _⟩, hb⟩
  have HX1 := Lib.hid (HX.out.later hb); have HM1 := Lib.hid (HM.out.later hb); have HB1 := Lib.hid (Below.go HB.out hb)
  clear hb HX HM HB EN X0 X1 X2 Xl
  have oX := HX1.out
  have X0 := oX.at 0 _ rfl
  have X1 := oX.at 1 _ rfl
  have X2 := oX.at 2 _ rfl
  have Xl := oX.lt
  clear oX
  go_wp2_with (fail)
  go_at_call 19
  refine (BX.out _ HM1.out HC.out).mono ?_
  rintro e w2 ⟨⟨l0, l1, l2, h0, h1, h2, rfl, hbx⟩, hb⟩
  obtain ⟨rfl, rfl, rfl⟩ := wk_box hbx
  have HB2 := Lib.hid (Below.go HB1.out hb)
  clear hb hbx HX1 HM1 HB1 BX X0 X1 X2 Xl
  go_wp2_with (fail)
  go_ret
  exact ⟨rfl, Below.al (Below.al HB2.out)⟩
end Go.Proofs.Ytnopcgkhoennfaa

/- SV -/
namespace Go.Proofs.Ytnopcgkhoennfaa
set_option linter.unusedVariables false
set_option maxRecDepth 2000
set_option linter.unusedSimpArgs false
open Go.RowKit
theorem byt_take_ {w : World} {q : Option Addr} {n m : Nat} {f : Nat → Int} (h : Byt w q n f) (hm : m ≤ n) : Byt w q m f := by
  by_cases h0 : m = 0
  · exact .inl h0
  · obtain ⟨b, off, h1, h2⟩ := h.resolve_left (by omega)
    exact .inr ⟨b, off, h1, has_take h2 hm⟩
/-- two meshes that come out of the same bytes are alike -/
theorem dec_same {F : Nat → Int} {N : Nat} {M Y : Msh} (h : DecM F N M) (k : DecM F N Y) : M.nv = Y.nv ∧ M.nu = Y.nu ∧ M.nt = Y.nt ∧ (∀ j, j < M.nv * 3 → M.V j = Y.V j) ∧ (∀ j, j < M.nu * 2 → M.U j = Y.U j) ∧ (∀ j, j < M.nt * 3 → M.R j = Y.R j) := by
  by_cases e : decE F N = 0
  · obtain ⟨a1, a2, a3, a4, a5, a6⟩ := h.yes e
    obtain ⟨b1, b2, b3, b4, b5, b6⟩ := k.yes e
    exact ⟨a1.trans b1.symm, a2.trans b2.symm, a3.trans b3.symm, fun j _ => by rw [a4, b4], fun j _ => by rw [a5, b5], fun j _ => by rw [a6, b6]⟩
  · obtain ⟨a1, a2, a3⟩ := h.no e
    obtain ⟨b1, b2, b3⟩ := k.no e
    exact ⟨a1.trans b1.symm, a2.trans b2.symm, a3.trans b3.symm, fun j hj => by omega, fun j hj => by omega, fun j hj => by omega⟩
theorem dec_few {F : Nat → Int} {N : Nat} {M : Msh} (hF : ∀ j, j < N → inB (F j)) (h : DecM F N M) : M.nv ≤ 1000 ∧ M.nu ≤ 1000 ∧ M.nt ≤ 1000 := by
  have c0 := (dcN_val hF 0).2; have c1 := (dcN_val hF 1).2
  by_cases e : decE F N = 0
  · obtain ⟨a1, a2, a3, _⟩ := h.yes e
    omega
  · obtain ⟨a1, a2, a3⟩ := h.no e
    omega
attribute [local go_sem ↓ high] sliced_head
set_option maxHeartbeats 8000000 in
theorem Decodes_law (F : Nat → Int) (q : Option Addr) (n c : Nat) (hF : ∀ j, j < n → inB (F j)) (hnc : n ≤ c) (hcx : c ≤ 9223372036854775807) (w : World) (hq : Byt w q n F) : Calls Try.prog 4 #[.slice q n c] w fun e w' => e = .returned (.bool true) ∧ Below w.heap.size w w' := by
  obtain ⟨N, eN⟩ : ∃ N, min n 900 = N := ⟨_, rfl⟩
  have e1 : min (n : Int) 900 = (N : Int) := by omega
  have l1 : (N : Int) ≤ (c : Int) := by omega
  have l0 : (0 : Int) ≤ (N : Int) := by omega
  have HQ := Lib.hid (byt_take_ hq (show N ≤ n by omega))
  have D1 := Lib.hid (fun w hq => Decode_any F q N c (fun j hj => hF j (by omega)) (by omega) w hq)
  have D2 := Lib.hid (fun w hq => RDecode_any F q N c (fun j hj => hF j (by omega)) (by omega) hcx (by omega) w hq)
  have FW := Lib.hid (fun M h => @dec_few F N M (fun j hj => hF j (by omega)) h)
  have SM_ := Lib.hid (fun M Y h k => @dec_same F N M Y h k)
  generalize decE F N = z at *
  generalize DecM F N = DM at *
  clear hF hnc hcx hq eN
  go_enter Try.func4, Try.ntmps4
  go_wp2_with (fail)
  go_at_call 15
  refine (D1.out _ HQ.out).mono ?_
  rintro e w1 ⟨⟨M, rfl, hM, hdm⟩, hb⟩
  have HB := Lib.hid hb; have HQ1 := Lib.hid (HQ.out.later hb)
  have HM := Lib.hid hM; have DM1 := Lib.hid hdm
  clear hb hM hdm HQ D1 e1 l0 l1
  go_upto_region 3 with fail
  obtain ⟨w2, hW⟩ : ∃ w2, w2 = (w1.alloc (.cells #[.slice M.qv M.nv M.cv, .slice M.qu M.nu M.cu, .slice M.qt M.nt M.ct] 26)) := ⟨_, rfl⟩
  have hBx : Below w1.heap.size w1 w2 := hW ▸ (Below.al (Below.refl _ _))
  have HA : Hid (Own w1.heap.size ([.slice M.qv M.nv M.cv, .slice M.qu M.nu M.cu, .slice M.qt M.nt M.ct]) w2) := Lib.hid (hW ▸ (show Own w1.heap.size ([.slice M.qv M.nv M.cv, .slice M.qu M.nu M.cu, .slice M.qt M.nt M.ct]) (w1.alloc (.cells #[.slice M.qv M.nv M.cv, .slice M.qu M.nu M.cu, .slice M.qt M.nt M.ct] 26)) from Own.newAt (by simp)))
  rw [← hW]
  clear hW
  obtain ⟨A, eA⟩ : ∃ X, X = w1.heap.size := ⟨_, rfl⟩
  rw [← eA] at HA ⊢
  have Aw : w1.heap.size ≤ A := by omega
  clear eA
  have HM_ := Lib.hid (HM.out.later hBx)
  have HQ1_ := Lib.hid (HQ1.out.later hBx)
  have HB_ := Lib.hid (Below.go HB.out hBx)
  clear hBx HB Aw HM HQ1
  have HM := HM_
  clear HM_
  have HQ1 := HQ1_
  clear HQ1_
  have HB := HB_
  clear HB_
  go_wp2_with (fail)
  go_at_call 16
  refine (D2.out _ HQ1.out).mono ?_
  rintro e w3 ⟨⟨Y, rfl, hY, hdy⟩, hb⟩
  have HA_ := Lib.hid (HA.out.later hb)
  have HM_ := Lib.hid (HM.out.later hb)
  have HB_ := Lib.hid (Below.go HB.out hb)
  have HY := Lib.hid hY; have DM2 := Lib.hid hdy
  clear hY hdy
  clear hb HB HA HM
  have HA := HA_
  clear HA_
  have HM := HM_
  clear HM_
  have HB := HB_
  clear HB_
  clear HQ1 D2
  go_upto_region 4 with fail
  obtain ⟨w4, hW⟩ : ∃ w4, w4 = (w3.alloc (.cells #[.slice Y.qv Y.nv Y.cv, .slice Y.qu Y.nu Y.cu, .slice Y.qt Y.nt Y.ct] 26)) := ⟨_, rfl⟩
  have hBx : Below w3.heap.size w3 w4 := hW ▸ (Below.al (Below.refl _ _))
  have HE : Hid (Own w3.heap.size ([.slice Y.qv Y.nv Y.cv, .slice Y.qu Y.nu Y.cu, .slice Y.qt Y.nt Y.ct]) w4) := Lib.hid (hW ▸ (show Own w3.heap.size ([.slice Y.qv Y.nv Y.cv, .slice Y.qu Y.nu Y.cu, .slice Y.qt Y.nt Y.ct]) (w3.alloc (.cells #[.slice Y.qv Y.nv Y.cv, .slice Y.qu Y.nu Y.cu, .slice Y.qt Y.nt Y.ct] 26)) from Own.newAt (by simp)))
  rw [← hW]
  clear hW
  obtain ⟨E, eE⟩ : ∃ X, X = w3.heap.size := ⟨_, rfl⟩
  rw [← eE] at HE ⊢
  have Ew : w3.heap.size ≤ E := by omega
  clear eE
  have HA_ := Lib.hid (HA.out.later hBx)
  have HM_ := Lib.hid (HM.out.later hBx)
  have HY_ := Lib.hid (HY.out.later hBx)
  have HB_ := Lib.hid (Below.go HB.out hBx)
  clear hBx HB Ew HA HM HY
  have HA := HA_
  clear HA_
  have HM := HM_
  clear HM_
  have HY := HY_
  clear HY_
  have HB := HB_
  clear HB_
  have SA := Lib.hid (SM_.out M Y DM1.out DM2.out)
  have SY := Lib.hid (Same_yes M Y _ HM.out HY.out SA.out.1 SA.out.2.1 SA.out.2.2.1 SA.out.2.2.2.1 SA.out.2.2.2.2.1 SA.out.2.2.2.2.2 (FW.out M DM1.out))
  clear SM_ FW SA DM1 DM2
  have oA := HA.out
  have A0 := oA.at 0 _ rfl
  have A1 := oA.at 1 _ rfl
  have A2 := oA.at 2 _ rfl
  have Al := oA.lt
  clear oA
  have oE := HE.out
  have E0 := oE.at 0 _ rfl
  have E1 := oE.at 1 _ rfl
  have E2 := oE.at 2 _ rfl
  have El := oE.lt
  clear oE
  go_wp2_with (fail)
  go_at_call 17
  refine SY.out.mono ?_
  rintro e w5 ⟨rfl, hb⟩
  have HB_ := Lib.hid (Below.go HB.out hb)
  clear hb HB SY A0 A1 A2 Al E0 E1 E2 El HA HE HM HY
  go_wp2_with (fail)
  go_at_call 14
  refine (works_any _).mono ?_
  rintro e w6 ⟨rfl, hb⟩
  have HB7 := Below.go HB_.out hb
  clear hb HB_
  go_wp2_with (fail)
  go_ret
  exact ⟨rfl, HB7⟩
end Go.Proofs.Ytnopcgkhoennfaa
