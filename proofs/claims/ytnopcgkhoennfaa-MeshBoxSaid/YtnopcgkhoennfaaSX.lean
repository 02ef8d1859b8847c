/- mesh: the walk of MeshBox. -/
import Derived.Test.YtnopcgkhoennfaaSU
import Derived.Test.YtnopcgkhoennfaaSL
import Derived.Lib.Hide
import Derived.LoopN
import Derived.LoopTactic
import Derived.Deep.Onto
import Derived.Deep.RegionHeld3
import Derived.Deep.QuietTactic
import Derived.BigQuiet
namespace Go.Proofs.Ytnopcgkhoennfaa
set_option linter.unusedVariables false
set_option maxRecDepth 2000
set_option linter.unusedSimpArgs false
open Go.RowKit
/-- the six bools of a function -/
theorem bool_over (G : Nat → Bool) (k : Nat) (hk : k < 6) (x : Bool) : over ([.bool (G 0), .bool (G 1), .bool (G 2), .bool (G 3), .bool (G 4), .bool (G 5)] : List Value) k [.bool x] = [.bool ((fun i => if i = k then x else G i) 0), .bool ((fun i => if i = k then x else G i) 1), .bool ((fun i => if i = k then x else G i) 2), .bool ((fun i => if i = k then x else G i) 3), .bool ((fun i => if i = k then x else G i) 4), .bool ((fun i => if i = k then x else G i) 5)] := match k, hk with
  | 0, _ => rfl
  | 1, _ => rfl
  | 2, _ => rfl
  | 3, _ => rfl
  | 4, _ => rfl
  | 5, _ => rfl
theorem bool_at (G : Nat → Bool) (k : Nat) (hk : k < 6) : ([.bool (G 0), .bool (G 1), .bool (G 2), .bool (G 3), .bool (G 4), .bool (G 5)] : List Value)[k]? = some (.bool (G k)) := match k, hk with
  | 0, _ => rfl
  | 1, _ => rfl
  | 2, _ => rfl
  | 3, _ => rfl
  | 4, _ => rfl
  | 5, _ => rfl
theorem index6 (G : Nat → Bool) (k : Nat) (hk : k < 6) (w : World) : (Instr.index 57 (.agg #[.bool (G 0), .bool (G 1), .bool (G 2), .bool (G 3), .bool (G 4), .bool (G 5)]) (.int .i64 k)).run Try.prog w = .ok (.bool (G k)) w := match k, hk with
  | 0, _ => by kernel_rfl
  | 1, _ => by kernel_rfl
  | 2, _ => by kernel_rfl
  | 3, _ => by kernel_rfl
  | 4, _ => by kernel_rfl
  | 5, _ => by kernel_rfl
theorem index3g (J : Nat → Int) (k : Nat) (hk : k < 3) (w : World) : (Instr.index 52 (.agg #[.int .i64 (J 0), .int .i64 (J 1), .int .i64 (J 2)]) (.int .i64 k)).run Try.prog w = .ok (.int .i64 (J k)) w := match k, hk with
  | 0, _ => by kernel_rfl
  | 1, _ => by kernel_rfl
  | 2, _ => by kernel_rfl
theorem eqB6 (w : World) : (binOp .eql 57 (.agg #[.bool true, .bool true, .bool true, .bool true, .bool true, .bool true]) (.agg #[.bool true, .bool true, .bool true, .bool true, .bool true, .bool true])).run Try.prog w = .ok (.bool true) w := by kernel_rfl
/-- which sides the first c corners have met -/
def Met (V R : Nat → Int) (D : Nat → Int) (c : Nat) (G : Nat → Bool) : Prop := ∀ a, a < 6 → (G a = true ↔ ∃ j, j < c ∧ crn V R j (a % 3) = D a)
theorem Met.zero {V R D : Nat → Int} : Met V R D 0 (fun _ => false) := fun a _ => by
  constructor
  · intro h; cases h
  · rintro ⟨j, hj, _⟩; exact absurd hj (Nat.not_lt_zero j)
theorem Met.step {V R D : Nat → Int} {c : Nat} {G H : Nat → Bool} (h : Met V R D c G) (e : ∀ a, a < 6 → (H a = true ↔ G a = true ∨ crn V R c (a % 3) = D a)) : Met V R D (c + 1) H := fun a ha => by
  rw [e a ha, h a ha]
  constructor
  · rintro (⟨j, hj, hd⟩ | hd)
    · exact ⟨j, by omega, hd⟩
    · exact ⟨c, by omega, hd⟩
  · rintro ⟨j, hj, hd⟩
    by_cases hc : j = c
    · subst hc; exact .inr hd
    · exact .inl ⟨j, by omega, hd⟩
def lim6 (l0 l1 l2 h0 h1 h2 : Int) (a : Nat) : Int := [l0, l1, l2, h0, h1, h2].getD a 0
theorem Met.full {V R : Nat → Int} {n : Nat} {l0 l1 l2 h0 h1 h2 : Int} {G : Nat → Bool} (b : Box3 V R n n l0 l1 l2 h0 h1 h2) (h : Met V R (lim6 l0 l1 l2 h0 h1 h2) n G) : ∀ a, a < 6 → G a = true := fun a ha => by
  rw [h a ha]
  obtain ⟨b0, b1, b2⟩ := b
  match a, ha with
  | 0, _ => obtain ⟨j, hj, e⟩ := b0.lo; exact ⟨j, hj, e.symm⟩
  | 1, _ => obtain ⟨j, hj, e⟩ := b1.lo; exact ⟨j, hj, e.symm⟩
  | 2, _ => obtain ⟨j, hj, e⟩ := b2.lo; exact ⟨j, hj, e.symm⟩
  | 3, _ => obtain ⟨j, hj, e⟩ := b0.hi; exact ⟨j, hj, e.symm⟩
  | 4, _ => obtain ⟨j, hj, e⟩ := b1.hi; exact ⟨j, hj, e.symm⟩
  | 5, _ => obtain ⟨j, hj, e⟩ := b2.hi; exact ⟨j, hj, e.symm⟩
attribute [local go_sem ↓] eqB6 eqP_self
set_option maxHeartbeats 16000000 in
theorem BoxM_law (M : Msh) (w : World) (hM : MeshAt M w) : Calls Try.prog 7 #[.agg #[.slice M.qv M.nv M.cv, .slice M.qu M.nu M.cu, .slice M.qt M.nt M.ct]] w fun e w' => e = .returned (.bool true) ∧ Below w.heap.size w w' := by
  have HM := Lib.hid hM
  clear hM
  go_enter Try.func7, Try.ntmps7
  go_upto_region 1 with fail
  obtain ⟨W0, hW⟩ : ∃ W0, W0 = (w.alloc (.cells #[.slice M.qv M.nv M.cv, .slice M.qu M.nu M.cu, .slice M.qt M.nt M.ct] 26)) := ⟨_, rfl⟩
  have hB0 : Below w.heap.size w W0 := hW ▸ (Below.al (Below.refl _ _))
  have HA : Hid (Own w.heap.size [.slice M.qv M.nv M.cv, .slice M.qu M.nu M.cu, .slice M.qt M.nt M.ct] W0) := Lib.hid (hW ▸ (Own.newAt (by simp)))
  rw [← hW]
  clear hW
  obtain ⟨A, eA⟩ : ∃ X, X = w.heap.size := ⟨_, rfl⟩
  rw [← eA] at HA ⊢
  have Aw : w.heap.size ≤ A := by omega
  clear eA
  have HM0 := Lib.hid (HM.out.later hB0)
  have oA := HA.out
  have A0 := oA.at 0 _ rfl
  have A1 := oA.at 1 _ rfl
  have A2 := oA.at 2 _ rfl
  have Al := oA.lt
  clear oA
  go_wp2_with (fail)
  go_at_call 8
  refine (FewM_any M _ HM0.out).mono ?_
  rintro e w1 ⟨rfl, hb⟩
  have HA1 := Lib.hid (HA.out.later hb); have HB1 := Lib.hid (Below.go hB0 hb)
  have HY := Lib.hid (fewM_at HM.out)
  clear hb hB0 HM HM0 HA A0 A1 A2 Al
  generalize fewM M = Y at *
  have oA := HA1.out
  have A0 := oA.at 0 _ rfl
  have Af0 := oA.ok 0 (by simp)
  have A1 := oA.at 1 _ rfl
  have Af1 := oA.ok 1 (by simp)
  have A2 := oA.at 2 _ rfl
  have Af2 := oA.ok 2 (by simp)
  have Al := oA.lt
  clear oA
  go_upto_region 2 with fail
  clear A0 A1 A2 Af0 Af1 Af2 Al
  rw [show (((w1.setCell ⟨A, 0, none⟩ (.slice Y.qv Y.nv Y.cv)).setCell ⟨A, 1, none⟩ (.slice Y.qu Y.nu Y.cu)).setCell ⟨A, 2, none⟩ (.slice Y.qt Y.nt Y.ct)) = w1.setCells A 0 [.slice Y.qv Y.nv Y.cv, .slice Y.qu Y.nu Y.cu, .slice Y.qt Y.nt Y.ct] from rfl]
  have HA : Hid (Own A [.slice Y.qv Y.nv Y.cv, .slice Y.qu Y.nu Y.cu, .slice Y.qt Y.nt Y.ct] (w1.setCells A 0 [.slice Y.qv Y.nv Y.cv, .slice Y.qu Y.nu Y.cu, .slice Y.qt Y.nt Y.ct])) := Lib.hid (Own.store HA1.out rfl)
  have HB : Hid (Below w.heap.size w (w1.setCells A 0 [.slice Y.qv Y.nv Y.cv, .slice Y.qu Y.nu Y.cu, .slice Y.qt Y.nt Y.ct])) := Lib.hid (Below.setCells HB1.out Aw _ _)
  clear HA1 HB1
  generalize w1.setCells A 0 [.slice Y.qv Y.nv Y.cv, .slice Y.qu Y.nu Y.cu, .slice Y.qt Y.nt Y.ct] = w2 at *
  obtain ⟨z, ez⟩ : ∃ z, chkM Y = z := ⟨_, rfl⟩
  by_cases hz : z = 0
  · subst hz
    have CY := Lib.hid (fun w hM => Box_yes Y w hM ez)
    have GD := Lib.hid (chk_good (show chkF Y.nv Y.nu Y.nt Y.V Y.U Y.R = 0 from ez))
    have hM := HY.out
    clear ez
    obtain ⟨qv, nv, cv, V, qu, nu, cu, U, qt, nt, ct, R⟩ := Y
    dsimp only at *
    have nn := GD.out.hn
    have nt1 := GD.out.ht
    obtain ⟨D3, o3, eqt, hD3, -⟩ := hM.t.at3 (i := 0) (show 0 < nt by omega)
    obtain ⟨DV, oV, eqv, hDV, -⟩ := hM.v.at3 (i := 0) (show 0 < nv by omega)
    dsimp only at *
    subst eqv eqt
    have HV := Lib.hid (fun (W : World) (hW : Below w.heap.size w W) (j : Nat) (hj : j < nv) => show Has DV (oV + j * 3) [.int .i64 (V (j * 3)), .int .i64 (V (j * 3 + 1)), .int .i64 (V (j * 3 + 2))] W by
      obtain ⟨D, o, eq, hD, c0, c1, c2⟩ := hM.v.at3 hj
      cases eq
      exact Has.later ⟨hD, fun j v hj => by
        match j, hj with
        | 0, hj => cases hj; exact c0
        | 1, hj => cases hj; exact c1
        | 2, hj => cases hj; exact c2⟩ hW)
    have HT := Lib.hid (fun (W : World) (hW : Below w.heap.size w W) (k : Nat) (hk : k < nt) => show Has D3 (o3 + k * 3) [.int .i64 (((R (k * 3)).toNat : Nat) : Int), .int .i64 (((R (k * 3 + 1)).toNat : Nat) : Int), .int .i64 (((R (k * 3 + 2)).toNat : Nat) : Int)] W by
      obtain ⟨D, o, eq, hD, c0, c1, c2⟩ := hM.t.at3 hk
      cases eq
      have g0 := GD.out.t (k * 3) (by omega); have g1 := GD.out.t (k * 3 + 1) (by omega); have g2 := GD.out.t (k * 3 + 2) (by omega)
      exact Has.later ⟨hD, fun j v hj => by
        match j, hj with
        | 0, hj => cases hj; rw [show (((R (k * 3)).toNat : Nat) : Int) = R (k * 3) by omega]; exact c0
        | 1, hj => cases hj; rw [show (((R (k * 3 + 1)).toNat : Nat) : Int) = R (k * 3 + 1) by omega]; exact c1
        | 2, hj => cases hj; rw [show (((R (k * 3 + 2)).toNat : Nat) : Int) = R (k * 3 + 2) by omega]; exact c2⟩ hW)
    have GT := Lib.hid (fun j (hj : j < nt * 3) => show (R j).toNat < nv by have := GD.out.t j hj; omega)
    have N1 := Lib.hid nt1
    clear hM GD nn nt1 hD3 hDV
    have oA := HA.out
    have A0 := oA.at 0 _ rfl
    have A1 := oA.at 1 _ rfl
    have A2 := oA.at 2 _ rfl
    have Al := oA.lt
    clear oA
    go_wp2_with (fail)
    go_at_call 19
    refine (CY.out _ (HY.out.later HB.out)).mono ?_
    rintro e w3 ⟨⟨l0, l1, l2, h0, h1, h2, rfl, hbx⟩, hb⟩
    have HA_ := Lib.hid (HA.out.later hb)
    have HB_ := Lib.hid (Below.go HB.out hb)
    have BX := Lib.hid hbx
    clear hbx
    clear hb HB HA
    have HA := HA_
    clear HA_
    have HB := HB_
    clear HB_
    clear A0 A1 A2 Al CY HY
    go_upto_region 3 with fail
    obtain ⟨w4, hW⟩ : ∃ w4, w4 = ((w3.alloc (.cells #[.int .i64 l0, .int .i64 l1, .int .i64 l2] 46)).alloc (.cells #[.int .i64 h0, .int .i64 h1, .int .i64 h2] 46)) := ⟨_, rfl⟩
    have hBx : Below w3.heap.size w3 w4 := hW ▸ (Below.al (Below.al (Below.refl _ _)))
    have HP : Hid (Own w3.heap.size ([.int .i64 l0, .int .i64 l1, .int .i64 l2]) w4) := Lib.hid (hW ▸ (show Own w3.heap.size ([.int .i64 l0, .int .i64 l1, .int .i64 l2]) (w3.alloc (.cells #[.int .i64 l0, .int .i64 l1, .int .i64 l2] 46)) from Own.newAt (by simp)).alloc)
    have HX : Hid (Own (w3.heap.size + 1) ([.int .i64 h0, .int .i64 h1, .int .i64 h2]) w4) := Lib.hid (hW ▸ (show Own (w3.heap.size + 1) ([.int .i64 h0, .int .i64 h1, .int .i64 h2]) ((w3.alloc (.cells #[.int .i64 l0, .int .i64 l1, .int .i64 l2] 46)).alloc (.cells #[.int .i64 h0, .int .i64 h1, .int .i64 h2] 46)) from Own.newAt (by simp)))
    rw [← hW]
    clear hW
    obtain ⟨X, eX⟩ : ∃ X, X = (w3.heap.size + 1) := ⟨_, rfl⟩
    rw [← eX] at HX ⊢
    have Xw : w3.heap.size ≤ X := by omega
    obtain ⟨P, eP⟩ : ∃ X, X = w3.heap.size := ⟨_, rfl⟩
    rw [← eP] at HP ⊢
    have Pw : w3.heap.size ≤ P := by omega
    have nPX : P ≠ X := by omega
    have nXP : X ≠ P := by omega
    clear eP eX
    have nAP : A ≠ P := by have := HA.out.lt; omega
    have nAX : A ≠ X := by have := HA.out.lt; omega
    have HA_ := Lib.hid (HA.out.later hBx); have HB_ := Lib.hid (Below.go HB.out hBx)
    clear HA HB hBx Pw Xw
    have HA := HA_; have HB := HB_
    clear HA_ HB_
    go_upto_region 6 with fail
    obtain ⟨w5, hW⟩ : ∃ w5, w5 = (w4.alloc (.cells #[.bool false, .bool false, .bool false, .bool false, .bool false, .bool false] 57)) := ⟨_, rfl⟩
    have hBx : Below w4.heap.size w4 w5 := hW ▸ (Below.al (Below.refl _ _))
    have HE : Hid (Own w4.heap.size ([.bool false, .bool false, .bool false, .bool false, .bool false, .bool false]) w5) := Lib.hid (hW ▸ (show Own w4.heap.size ([.bool false, .bool false, .bool false, .bool false, .bool false, .bool false]) (w4.alloc (.cells #[.bool false, .bool false, .bool false, .bool false, .bool false, .bool false] 57)) from Own.newAt (by simp)))
    rw [← hW]
    clear hW
    obtain ⟨E, eE⟩ : ∃ X, X = w4.heap.size := ⟨_, rfl⟩
    rw [← eE] at HE ⊢
    have Ew : w4.heap.size ≤ E := by omega
    clear eE
    have nAE : A ≠ E := by have := HA.out.lt; omega
    have nPE : P ≠ E := by have := HP.out.lt; omega
    have nXE : X ≠ E := by have := HX.out.lt; omega
    have EW := Lib.hid (show w.heap.size ≤ E by have := HB.out.size; omega)
    have HA_ := Lib.hid (HA.out.later hBx); have HP_ := Lib.hid (HP.out.later hBx); have HX_ := Lib.hid (HX.out.later hBx); have HB_ := Lib.hid (Below.go HB.out hBx)
    clear HA HP HX HB hBx Ew
    have HA := HA_; have HP := HP_; have HX := HX_; have HB := HB_
    clear HA_ HP_ HX_ HB_
    have HE0 : Hid (Own E [.bool ((fun _ => false) 0), .bool ((fun _ => false) 1), .bool ((fun _ => false) 2), .bool ((fun _ => false) 3), .bool ((fun _ => false) 4), .bool ((fun _ => false) 5)] w5) := HE
    have M0 : Hid (Met V R (lim6 l0 l1 l2 h0 h1 h2) (0 * 3) (fun _ => false)) := Lib.hid Met.zero
    clear HE
    have oA := HA.out
    have A2 := oA.at 2 _ rfl
    have Al := oA.lt
    clear oA
    go_wp2_with (fail)
    clear A2 Al
    go_loopw [45] (fun iv wr => ∃ (k : Nat) (G : Nat → Bool), k ≤ nt ∧ iv = .int .i64 k ∧ Hid (Met V R (lim6 l0 l1 l2 h0 h1 h2) (k * 3) G) ∧ Hid (Own A [.slice (some ⟨DV, oV, none⟩) nv cv, .slice qu nu cu, .slice (some ⟨D3, o3, none⟩) nt ct] wr) ∧ Hid (Own P [.int .i64 l0, .int .i64 l1, .int .i64 l2] wr) ∧ Hid (Own X [.int .i64 h0, .int .i64 h1, .int .i64 h2] wr) ∧ Hid (Own E [.bool (G 0), .bool (G 1), .bool (G 2), .bool (G 3), .bool (G 4), .bool (G 5)] wr) ∧ Hid (Below w.heap.size w wr)) (fun iv _ => (nt - (intOf iv).toNat))
    case atStart => exact ⟨0, _, Nat.zero_le _, rfl, M0, HA, HP, HX, HE0, HB⟩
    case round =>
      clear M0 HA HP HX HE0 HB
      obtain ⟨k, G, hk, rfl, MT, HA, HP, HX, HE, HB⟩ := hrel
      by_cases hlt : k < nt
      · have hki : (k : Int) < (nt : Int) := by omega
        have k0 : (0 : Int) ≤ (k : Int) := by omega
        have wk : IntKind.i64.wrap ((k : Int) + 1) = (k : Int) + 1 := IntWalk.i64_in _ (by have := N1.out; omega)
        have HLT := Lib.hid hlt
        have T3 := HT.out wr HB.out k hlt
        obtain ⟨J, eJ⟩ : ∃ J : Nat → Int, J = fun r => (((R (k * 3 + r)).toNat : Nat) : Int) := ⟨_, rfl⟩
        have t0 : wr.cell? ⟨D3, o3 + k * 3, none⟩ = some (.int .i64 (J 0)) := by rw [eJ]; exact T3.at 0 _ rfl
        have t1 : wr.cell? ⟨D3, o3 + k * 3 + 1, none⟩ = some (.int .i64 (J 1)) := by rw [eJ]; exact T3.at 1 _ rfl
        have t2 : wr.cell? ⟨D3, o3 + k * 3 + 2, none⟩ = some (.int .i64 (J 2)) := by rw [eJ]; exact T3.at 2 _ rfl
        have Tl := T3.lt
        have EJ := Lib.hid eJ
        clear hk hlt T3 eJ
        go_upto_region 9 with fail
        clear t0 t1 t2 Tl
        obtain ⟨y0, hW⟩ : ∃ y0, y0 = (wr.alloc (.cells #[.int .i64 (J 0), .int .i64 (J 1), .int .i64 (J 2)] 52)) := ⟨_, rfl⟩
        have hBx : Below wr.heap.size wr y0 := hW ▸ (Below.al (Below.refl _ _))
        have HTt : Hid (Own wr.heap.size ([.int .i64 (J 0), .int .i64 (J 1), .int .i64 (J 2)]) y0) := Lib.hid (hW ▸ (show Own wr.heap.size ([.int .i64 (J 0), .int .i64 (J 1), .int .i64 (J 2)]) (wr.alloc (.cells #[.int .i64 (J 0), .int .i64 (J 1), .int .i64 (J 2)] 52)) from Own.newAt (by simp)))
        rw [← hW]
        clear hW
        obtain ⟨T, eT⟩ : ∃ X, X = wr.heap.size := ⟨_, rfl⟩
        rw [← eT] at HTt ⊢
        have Tw : wr.heap.size ≤ T := by omega
        clear eT
        have HA_ := Lib.hid (HA.out.later hBx)
        have HP_ := Lib.hid (HP.out.later hBx)
        have HX_ := Lib.hid (HX.out.later hBx)
        have HE_ := Lib.hid (HE.out.later hBx)
        have HB_ := Lib.hid (Below.go HB.out hBx)
        clear HB hBx HA HP HX HE
        have HA := HA_
        clear HA_
        have HP := HP_
        clear HP_
        have HX := HX_
        clear HX_
        have HE := HE_
        clear HE_
        have HB := HB_
        clear HB_
        have oT := HTt.out
        have T0 := oT.at 0 _ rfl
        have T1 := oT.at 1 _ rfl
        have T2 := oT.at 2 _ rfl
        have Tl := oT.lt
        clear oT
        go_wp2_with (fail)
        clear T0 T1 T2 Tl HTt Tw
        go_loopw [50] (fun iv wr => ∃ (r : Nat) (G : Nat → Bool), r ≤ 3 ∧ iv = .int .i64 r ∧ Hid (Met V R (lim6 l0 l1 l2 h0 h1 h2) (k * 3 + r) G) ∧ Hid (Own A [.slice (some ⟨DV, oV, none⟩) nv cv, .slice qu nu cu, .slice (some ⟨D3, o3, none⟩) nt ct] wr) ∧ Hid (Own P [.int .i64 l0, .int .i64 l1, .int .i64 l2] wr) ∧ Hid (Own X [.int .i64 h0, .int .i64 h1, .int .i64 h2] wr) ∧ Hid (Own E [.bool (G 0), .bool (G 1), .bool (G 2), .bool (G 3), .bool (G 4), .bool (G 5)] wr) ∧ Hid (Below w.heap.size w wr)) (fun iv _ => (3 - (intOf iv).toNat))
        case atStart => exact ⟨0, _, Nat.zero_le _, rfl, MT, HA, HP, HX, HE, HB⟩
        case round =>
          clear MT HA HP HX HE HB
          obtain ⟨r, G, hr, rfl, MT, HA, HP, HX, HE, HB⟩ := hrel
          by_cases hrt : r < 3
          · have hri : (r : Int) < 3 := by omega
            have r0 : (0 : Int) ≤ (r : Int) := by omega
            have wr_ : IntKind.i64.wrap ((r : Int) + 1) = (r : Int) + 1 := IntWalk.i64_in _ (by omega)
            have ix := index3g J r hrt
            obtain ⟨c, ec⟩ : ∃ c, k * 3 + r = c := ⟨_, rfl⟩
            have cn : c < nt * 3 := by have := HLT.out; omega
            obtain ⟨j, ej⟩ : ∃ j, (R c).toNat = j := ⟨_, rfl⟩
            have jn : j < nv := by rw [← ej]; exact GT.out c cn
            have eJr : J r = (j : Int) := by rw [EJ.out]; show (((R (k * 3 + r)).toNat : Nat) : Int) = _; rw [ec, ej]
            rw [eJr] at ix
            have V3 := HV.out wr HB.out j jn
            have bx := BX.out
            have a0 := bx.1.all c cn; have a1 := bx.2.1.all c cn; have a2 := bx.2.2.all c cn
            obtain ⟨v0, ev0⟩ : ∃ v, V (j * 3) = v := ⟨_, rfl⟩
            obtain ⟨v1, ev1⟩ : ∃ v, V (j * 3 + 1) = v := ⟨_, rfl⟩
            obtain ⟨v2, ev2⟩ : ∃ v, V (j * 3 + 2) = v := ⟨_, rfl⟩
            rw [ev0, ev1, ev2] at V3
            have c0 : crn V R c 0 = v0 := by unfold crn; rw [ej]; exact ev0
            have c1 : crn V R c 1 = v1 := by unfold crn; rw [ej]; exact ev1
            have c2 : crn V R c 2 = v2 := by unfold crn; rw [ej]; exact ev2
            rw [c0] at a0
            rw [c1] at a1
            rw [c2] at a2
            obtain ⟨I, hI0, hI1, hI2, hI3, hI4, hI5⟩ : ∃ I : Nat → Bool, I 0 = (v0 == l0) ∧ I 1 = (v1 == l1) ∧ I 2 = (v2 == l2) ∧ I 3 = (v0 == h0) ∧ I 4 = (v1 == h1) ∧ I 5 = (v2 == h2) := ⟨fun a => [v0 == l0, v1 == l1, v2 == l2, v0 == h0, v1 == h1, v2 == h2].getD a false, rfl, rfl, rfl, rfl, rfl, rfl⟩
            have EI : Hid (∀ a, a < 6 → (I a = true ↔ crn V R c (a % 3) = lim6 l0 l1 l2 h0 h1 h2 a)) := Lib.hid (fun a ha => by
              match a, ha with
              | 0, _ => show I 0 = true ↔ crn V R c 0 = l0; rw [hI0, c0]; simp
              | 1, _ => show I 1 = true ↔ crn V R c 1 = l1; rw [hI1, c1]; simp
              | 2, _ => show I 2 = true ↔ crn V R c 2 = l2; rw [hI2, c2]; simp
              | 3, _ => show I 3 = true ↔ crn V R c 0 = h0; rw [hI3, c0]; simp
              | 4, _ => show I 4 = true ↔ crn V R c 1 = h1; rw [hI4, c1]; simp
              | 5, _ => show I 5 = true ↔ crn V R c 2 = h2; rw [hI5, c2]; simp)
            have g00 : decide (v0 < l0) = false := decide_eq_false (by omega)
            have g01 : decide (v1 < l1) = false := decide_eq_false (by omega)
            have g02 : decide (v2 < l2) = false := decide_eq_false (by omega)
            have g10 : decide (h0 < v0) = false := decide_eq_false (by omega)
            have g11 : decide (h1 < v1) = false := decide_eq_false (by omega)
            have g12 : decide (h2 < v2) = false := decide_eq_false (by omega)
            have p0 : (0 : Int) ≤ (j : Int) := by omega
            have p1 : (j : Int) < (nv : Int) := by omega
            have x0 : wr.cell? ⟨DV, oV + j * 3, none⟩ = some (.int .i64 v0) := V3.at 0 _ rfl
            have x1 := V3.at 1 _ rfl; have x2 := V3.at 2 _ rfl; have Vl := V3.lt
            have HRT := Lib.hid hrt; have EC := Lib.hid ec
            have HI := Lib.hid (And.intro hI0 (And.intro hI1 (And.intro hI2 (And.intro hI3 (And.intro hI4 hI5)))))
            clear hr hrt ej jn eJr V3 bx a0 a1 a2 ev0 ev1 ev2 c0 c1 c2 cn ec hI0 hI1 hI2 hI3 hI4 hI5
            have oA := HA.out
            have A0 := oA.at 0 _ rfl
            have Al := oA.lt
            clear oA
            go_upto_region 13 with fail
            clear A0 Al x0 x1 x2 Vl ix p0 p1
            obtain ⟨y1, hW⟩ : ∃ y1, y1 = (wr.alloc (.cells #[.int .i64 v0, .int .i64 v1, .int .i64 v2] 46)) := ⟨_, rfl⟩
            have hBy : Below wr.heap.size wr y1 := hW ▸ (Below.al (Below.refl _ _))
            have HQ : Hid (Own wr.heap.size ([.int .i64 v0, .int .i64 v1, .int .i64 v2]) y1) := Lib.hid (hW ▸ (show Own wr.heap.size ([.int .i64 v0, .int .i64 v1, .int .i64 v2]) (wr.alloc (.cells #[.int .i64 v0, .int .i64 v1, .int .i64 v2] 46)) from Own.newAt (by simp)))
            rw [← hW]
            clear hW
            obtain ⟨Q, eQ⟩ : ∃ X, X = wr.heap.size := ⟨_, rfl⟩
            rw [← eQ] at HQ ⊢
            have Qw : wr.heap.size ≤ Q := by omega
            clear eQ
            have HA_ := Lib.hid (HA.out.later hBy)
            have HP_ := Lib.hid (HP.out.later hBy)
            have HX_ := Lib.hid (HX.out.later hBy)
            have HE_ := Lib.hid (HE.out.later hBy)
            have HB_ := Lib.hid (Below.go HB.out hBy)
            clear HB hBy HA HP HX HE
            have HA := HA_
            clear HA_
            have HP := HP_
            clear HP_
            have HX := HX_
            clear HX_
            have HE := HE_
            clear HE_
            have HB := HB_
            clear HB_
            have oP := HP.out
            have P0 := oP.at 0 _ rfl
            have P1 := oP.at 1 _ rfl
            have P2 := oP.at 2 _ rfl
            have Pl := oP.lt
            clear oP
            have oX := HX.out
            have X0 := oX.at 0 _ rfl
            have X1 := oX.at 1 _ rfl
            have X2 := oX.at 2 _ rfl
            have Xl := oX.lt
            clear oX
            have oQ := HQ.out
            have Q0 := oQ.at 0 _ rfl
            have Q1 := oQ.at 1 _ rfl
            have Q2 := oQ.at 2 _ rfl
            have Ql := oQ.lt
            clear oQ
            go_upto_region 15 with fail
            go_upto_region 16 with fail
            rw [← HI.out.1, ← HI.out.2.1, ← HI.out.2.2.1, ← HI.out.2.2.2.1, ← HI.out.2.2.2.2.1, ← HI.out.2.2.2.2.2]
            clear P0 P1 P2 Pl X0 X1 X2 Xl Q0 Q1 Q2 Ql HQ HI g00 g01 g02 g10 g11 g12 Qw
            have HH0 : Hid (∀ i, i < 6 → G i = if i < 0 then (G i || I i) else G i) := Lib.hid (fun i _ => (if_neg (Nat.not_lt_zero i)).symm)
            go_loopw [129] (fun iv wr => ∃ (a : Nat) (H : Nat → Bool), a ≤ 6 ∧ iv = .int .i64 a ∧ Hid (∀ i, i < 6 → H i = if i < a then (G i || I i) else G i) ∧ Hid (Own A [.slice (some ⟨DV, oV, none⟩) nv cv, .slice qu nu cu, .slice (some ⟨D3, o3, none⟩) nt ct] wr) ∧ Hid (Own P [.int .i64 l0, .int .i64 l1, .int .i64 l2] wr) ∧ Hid (Own X [.int .i64 h0, .int .i64 h1, .int .i64 h2] wr) ∧ Hid (Own E [.bool (H 0), .bool (H 1), .bool (H 2), .bool (H 3), .bool (H 4), .bool (H 5)] wr) ∧ Hid (Below w.heap.size w wr)) (fun iv _ => (6 - (intOf iv).toNat))
            case atStart => exact ⟨0, G, Nat.zero_le _, rfl, HH0, HA, HP, HX, HE, HB⟩
            case round =>
              clear HH0 HA HP HX HE HB
              obtain ⟨a, H, ha, rfl, HH, HA, HP, HX, HE, HB⟩ := hrel
              by_cases hat : a < 6
              · have hai : (a : Int) < 6 := by omega
                have a0 : (0 : Int) ≤ (a : Int) := by omega
                have wa : IntKind.i64.wrap ((a : Int) + 1) = (a : Int) + 1 := IntWalk.i64_in _ (by omega)
                have ix6 := index6 I a hat
                have Ec := HE.out.at a _ (bool_at H a hat)
                have Ef := HE.out.ok a (by simp; omega)
                have El := HE.out.lt
                obtain ⟨b, eb⟩ : ∃ b, H a = b := ⟨_, rfl⟩
                obtain ⟨x, exx⟩ : ∃ x, I a = x := ⟨_, rfl⟩
                rw [eb] at Ec
                rw [exx] at ix6
                have HAT := Lib.hid hat
                have bG : G a = b := by have h := HH.out a hat; rw [if_neg (Nat.lt_irrefl a), eb] at h; exact h.symm
                have NX : ∀ y, y = (b || x) → Hid (∀ i, i < 6 → (fun i => if i = a then y else H i) i = if i < a + 1 then (G i || I i) else G i) := fun y hy => Lib.hid (fun i hi => by
                  show (if i = a then y else H i) = _
                  by_cases e : i = a
                  · subst e; rw [if_pos rfl, if_pos (Nat.lt_succ_self _), hy, bG, exx]
                  · rw [if_neg e, HH.out i hi]
                    by_cases e2 : i < a
                    · rw [if_pos e2, if_pos (by omega)]
                    · rw [if_neg e2, if_neg (by omega)])
                have NXH := Lib.hid NX
                clear ha hat eb exx bG HH NX
                cases b with
                | true =>
                  have NH := NXH.out true (by simp)
                  clear NXH
                  go_wp2_with (fail)
                  clear Ec Ef El ix6
                  rw [show wr.setCell ⟨E, a, none⟩ (.bool true) = wr.setCells E a [.bool true] from rfl]
                  have hbm : But E wr (wr.setCells E a [.bool true]) := But.store
                  have HE_ : Hid (Own E [.bool ((fun i => if i = a then true else H i) 0), .bool ((fun i => if i = a then true else H i) 1), .bool ((fun i => if i = a then true else H i) 2), .bool ((fun i => if i = a then true else H i) 3), .bool ((fun i => if i = a then true else H i) 4), .bool ((fun i => if i = a then true else H i) 5)] (wr.setCells E a [.bool true])) := Lib.hid (by rw [← bool_over H a HAT.out true]; exact Own.part HE.out (by have := HAT.out; simp; omega))
                  have HA_ := Lib.hid (HA.out.but hbm nAE); have HP_ := Lib.hid (HP.out.but hbm nPE); have HX_ := Lib.hid (HX.out.but hbm nXE)
                  have HB_ : Hid (Below w.heap.size w (wr.setCells E a [.bool true])) := Lib.hid (Below.setCells HB.out EW.out _ _)
                  clear HA HP HX HE HB hbm
                  generalize wr.setCells E a [.bool true] = y2 at *
                  go_roundw
                  case rel => (first | exact ⟨a + 1, _, HAT.out, by go_num, NH, HA_, HP_, HX_, HE_, HB_⟩ | ((repeat apply Exists.intro); exact ⟨⟨a + 1, _, HAT.out, by go_num, NH, HA_, HP_, HX_, HE_, HB_⟩, rfl⟩))
                  case measure => (have := HAT.out; simp [intOf]; omega)
                | false =>
                  have NH := NXH.out x (by simp)
                  clear NXH
                  go_wp2_with (fail)
                  clear Ec Ef El ix6
                  rw [show wr.setCell ⟨E, a, none⟩ (.bool x) = wr.setCells E a [.bool x] from rfl]
                  have hbm : But E wr (wr.setCells E a [.bool x]) := But.store
                  have HE_ : Hid (Own E [.bool ((fun i => if i = a then x else H i) 0), .bool ((fun i => if i = a then x else H i) 1), .bool ((fun i => if i = a then x else H i) 2), .bool ((fun i => if i = a then x else H i) 3), .bool ((fun i => if i = a then x else H i) 4), .bool ((fun i => if i = a then x else H i) 5)] (wr.setCells E a [.bool x])) := Lib.hid (by rw [← bool_over H a HAT.out x]; exact Own.part HE.out (by have := HAT.out; simp; omega))
                  have HA_ := Lib.hid (HA.out.but hbm nAE); have HP_ := Lib.hid (HP.out.but hbm nPE); have HX_ := Lib.hid (HX.out.but hbm nXE)
                  have HB_ : Hid (Below w.heap.size w (wr.setCells E a [.bool x])) := Lib.hid (Below.setCells HB.out EW.out _ _)
                  clear HA HP HX HE HB hbm
                  generalize wr.setCells E a [.bool x] = y2 at *
                  go_roundw
                  case rel => (first | exact ⟨a + 1, _, HAT.out, by go_num, NH, HA_, HP_, HX_, HE_, HB_⟩ | ((repeat apply Exists.intro); exact ⟨⟨a + 1, _, HAT.out, by go_num, NH, HA_, HP_, HX_, HE_, HB_⟩, rfl⟩))
                  case measure => (have := HAT.out; simp [intOf]; omega)
              · obtain rfl : a = 6 := by omega
                have MT2 : Hid (Met V R (lim6 l0 l1 l2 h0 h1 h2) (k * 3 + (r + 1)) H) := Lib.hid (by
                  have hc := EC.out
                  rw [show k * 3 + (r + 1) = (k * 3 + r) + 1 from rfl]
                  refine MT.out.step (fun i hi => ?_)
                  rw [HH.out i hi, if_pos hi, hc, ← EI.out i hi, Bool.or_eq_true])
                clear ha hat HH
                go_wp2_with (fail)
                go_roundw
                case rel => (first | exact ⟨r + 1, H, HRT.out, by go_num, MT2, HA, HP, HX, HE, HB⟩ | ((repeat apply Exists.intro); exact ⟨⟨r + 1, H, HRT.out, by go_num, MT2, HA, HP, HX, HE, HB⟩, rfl⟩))
                case measure => (have := HRT.out; simp [intOf]; omega)
          · obtain rfl : r = 3 := by omega
            have MT2 : Hid (Met V R (lim6 l0 l1 l2 h0 h1 h2) ((k + 1) * 3) G) := Lib.hid (by rw [Nat.succ_mul]; exact MT.out)
            clear hr hrt
            go_wp2_with (fail)
            go_roundw
            case rel => (first | exact ⟨k + 1, G, HLT.out, by go_num, MT2, HA, HP, HX, HE, HB⟩ | ((repeat apply Exists.intro); exact ⟨⟨k + 1, G, HLT.out, by go_num, MT2, HA, HP, HX, HE, HB⟩, rfl⟩))
            case measure => (have := HLT.out; simp [intOf]; omega)
      · obtain rfl : nt = k := by omega
        have FU := Met.full BX.out MT.out
        have HE1 : Hid (Own E [.bool true, .bool true, .bool true, .bool true, .bool true, .bool true] wr) := Lib.hid (by
          have h := HE.out
          rw [FU 0 (by decide), FU 1 (by decide), FU 2 (by decide), FU 3 (by decide), FU 4 (by decide), FU 5 (by decide)] at h
          exact h)
        clear hk hlt FU HE MT
        have oE := HE1.out
        have E0 := oE.at 0 _ rfl
        have E1 := oE.at 1 _ rfl
        have E2 := oE.at 2 _ rfl
        have E3 := oE.at 3 _ rfl
        have E4 := oE.at 4 _ rfl
        have E5 := oE.at 5 _ rfl
        have El := oE.lt
        clear oE
        go_wp2_with (fail)
        clear E0 E1 E2 E3 E4 E5 El
        go_at_call 14
        refine (works_any _).mono ?_
        rintro e w9 ⟨rfl, hb⟩
        have HB9 := Below.go HB.out hb
        clear hb HB
        go_wp2_with (fail)
        go_ret
        exact ⟨rfl, HB9⟩
  · have CY := Lib.hid (fun w hM => Box_no Y z w hM ez hz)
    have CC := Lib.hid (Check_any Y)
    rw [ez] at CC
    have hd : (z != 0) = true := by simpa using hz
    clear ez hz
    have oA := HA.out
    have A0 := oA.at 0 _ rfl
    have A1 := oA.at 1 _ rfl
    have A2 := oA.at 2 _ rfl
    have Al := oA.lt
    clear oA
    go_wp2_with (fail)
    go_at_call 19
    refine (CY.out _ (HY.out.later HB.out)).mono ?_
    rintro e w3 ⟨rfl, hb⟩
    have HA_ := Lib.hid (HA.out.later hb)
    have HB_ := Lib.hid (Below.go HB.out hb)
    clear hb HB HA
    have HA := HA_
    clear HA_
    have HB := HB_
    clear HB_
    clear A0 A1 A2 Al CY
    go_upto_region 3 with fail
    obtain ⟨w4, hW⟩ : ∃ w4, w4 = ((w3.alloc (.cells #[.int .i64 0, .int .i64 0, .int .i64 0] 46)).alloc (.cells #[.int .i64 0, .int .i64 0, .int .i64 0] 46)) := ⟨_, rfl⟩
    have hBx : Below w3.heap.size w3 w4 := hW ▸ (Below.al (Below.al (Below.refl _ _)))
    have HP : Hid (Own w3.heap.size ([.int .i64 0, .int .i64 0, .int .i64 0]) w4) := Lib.hid (hW ▸ (show Own w3.heap.size ([.int .i64 0, .int .i64 0, .int .i64 0]) (w3.alloc (.cells #[.int .i64 0, .int .i64 0, .int .i64 0] 46)) from Own.newAt (by simp)).alloc)
    have HX : Hid (Own (w3.heap.size + 1) ([.int .i64 0, .int .i64 0, .int .i64 0]) w4) := Lib.hid (hW ▸ (show Own (w3.heap.size + 1) ([.int .i64 0, .int .i64 0, .int .i64 0]) ((w3.alloc (.cells #[.int .i64 0, .int .i64 0, .int .i64 0] 46)).alloc (.cells #[.int .i64 0, .int .i64 0, .int .i64 0] 46)) from Own.newAt (by simp)))
    rw [← hW]
    clear hW
    obtain ⟨X, eX⟩ : ∃ X, X = (w3.heap.size + 1) := ⟨_, rfl⟩
    rw [← eX] at HX ⊢
    have Xw : w3.heap.size ≤ X := by omega
    obtain ⟨P, eP⟩ : ∃ X, X = w3.heap.size := ⟨_, rfl⟩
    rw [← eP] at HP ⊢
    have Pw : w3.heap.size ≤ P := by omega
    have nPX : P ≠ X := by omega
    have nXP : X ≠ P := by omega
    clear eP eX
    have nAP : A ≠ P := by have := HA.out.lt; omega
    have nAX : A ≠ X := by have := HA.out.lt; omega
    have HA_ := Lib.hid (HA.out.later hBx); have HB_ := Lib.hid (Below.go HB.out hBx)
    clear HA HB hBx Pw Xw
    have HA := HA_; have HB := HB_
    clear HA_ HB_
    have oA := HA.out
    have A0 := oA.at 0 _ rfl
    have A1 := oA.at 1 _ rfl
    have A2 := oA.at 2 _ rfl
    have Al := oA.lt
    clear oA
    go_wp2_with (fail)
    go_at_call 11
    refine (CC.out _ (HY.out.later HB.out)).mono ?_
    rintro e w5 ⟨rfl, hb⟩
    have HA_ := Lib.hid (HA.out.later hb)
    have HP_ := Lib.hid (HP.out.later hb)
    have HX_ := Lib.hid (HX.out.later hb)
    have HB_ := Lib.hid (Below.go HB.out hb)
    clear hb HB HA HP HX
    have HA := HA_
    clear HA_
    have HP := HP_
    clear HP_
    have HX := HX_
    clear HX_
    have HB := HB_
    clear HB_
    clear A0 A1 A2 Al CC
    have oP := HP.out
    have P0 := oP.at 0 _ rfl
    have P1 := oP.at 1 _ rfl
    have P2 := oP.at 2 _ rfl
    have Pl := oP.lt
    clear oP
    have oX := HX.out
    have X0 := oX.at 0 _ rfl
    have X1 := oX.at 1 _ rfl
    have X2 := oX.at 2 _ rfl
    have Xl := oX.lt
    clear oX
    go_wp2_with (fail)
    go_at_call 14
    refine (works_any _).mono ?_
    rintro e w9 ⟨rfl, hb⟩
    have HB9 := Below.go HB.out hb
    clear hb HB
    go_wp2_with (fail)
    go_ret
    exact ⟨rfl, HB9⟩
end Go.Proofs.Ytnopcgkhoennfaa
