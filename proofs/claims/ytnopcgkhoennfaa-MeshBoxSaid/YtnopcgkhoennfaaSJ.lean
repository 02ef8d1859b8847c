/- mesh: Encode. -/
import Derived.Test.YtnopcgkhoennfaaSE
import Derived.Test.YtnopcgkhoennfaaSI
import Derived.Lib.Hide
import Derived.LoopN
import Derived.LoopTactic
import Derived.Deep.Onto
import Derived.Deep.RegionHeld3
import Derived.Deep.QuietTactic
import Derived.BigQuiet
import Derived.Great.BuildSlice
namespace Go.Proofs.Ytnopcgkhoennfaa
set_option linter.unusedVariables false
set_option maxRecDepth 2000
set_option linter.unusedSimpArgs false
open Go.RowKit
set_option maxHeartbeats 16000000 in
theorem Encode_any (M : Msh) (w : World) (hM : MeshAt M w) : Calls Try.prog 9 #[(.agg #[.slice M.qv M.nv M.cv, .slice M.qu M.nu M.cu, .slice M.qt M.nt M.ct])] w fun e w' => (∃ v, e = .returned (.tuple #[v, .int .i64 (chkM M)]) ∧ RowR w' v (encL (chkM M) (encN M.nv M.nu M.nt)) (encF M.nv M.nu M.nt M.V M.U M.R)) ∧ Below w.heap.size w w' := by
  have HM := Lib.hid hM
  have CK := Lib.hid (Check_any M)
  have GD := Lib.hid (@chk_good M.nv M.nu M.nt M.V M.U M.R)
  have HZ : Hid (chkM M = chkF M.nv M.nu M.nt M.V M.U M.R) := Lib.hid rfl
  obtain ⟨z, ez⟩ : ∃ z, chkM M = z := ⟨_, rfl⟩
  rw [HZ.out] at ez
  rw [ez] at GD HZ
  rw [HZ.out] at CK ⊢
  clear ez HZ hM
  by_cases hz : z = 0
  · subst hz
    have GO := GD.out rfl
    clear GD
    obtain ⟨qv, nv, cv, V, qu, nu, cu, U, qt, nt, ct, R⟩ := M
    dsimp only at *
    obtain ⟨nn, tt, un, gv, gu, gt⟩ := GO
    rw [show encL 0 (encN nv nu nt) = encN nv nu nt from rfl]
    obtain ⟨N2, e2⟩ : ∃ n, n = 2 + 2 * (nv * 3) := ⟨_, rfl⟩
    obtain ⟨N3, e3⟩ : ∃ n, n = N2 + 2 * (nu * 2) := ⟨_, rfl⟩
    obtain ⟨N4, e4⟩ : ∃ n, n = N3 + 1 * (nt * 3) := ⟨_, rfl⟩
    have C1 := Lib.hid (fun p w hp => Put_ok none p 0 0 2 2 1 2 (fun _ => 0) (cntF nv nt) rfl (by decide) (by decide) (fun k hk => by unfold cntF; split <;> omega) (fun k hk => fit_1 (by unfold cntF; split <;> omega)) (by decide) (by decide) (by decide) (by decide) (by decide) (by decide) w (.inl rfl) hp)
    have C2 := Lib.hid (fun q c hc1 hc2 p c2 h1 h2 w hq hp => Signed_ok q p 2 c (nv * 3) c2 N2 (enc1 nv nt) V e2.symm gv hc1 hc2 h1 h2 (by decide) (by omega) w hq hp)
    have C3 := Lib.hid (fun q c hc1 hc2 p c2 h1 h2 w hq hp => Put_ok q p N2 c (nu * 2) c2 2 N3 (enc2 nv nt V) U e3.symm (by decide) (by decide) gu (fun k hk => fit_2 (by have := gu k hk; omega)) hc1 hc2 h1 h2 (by omega) (by omega) w hq hp)
    have C4 := Lib.hid (fun q c hc1 hc2 p c2 h1 h2 w hq hp => Put_ok q p N3 c (nt * 3) c2 1 N4 (outF (enc2 nv nt V) N2 2 U) R e4.symm (by decide) (by decide) (fun k hk => by have := gt k hk; omega) (fun k hk => fit_1 (by have := gt k hk; omega)) hc1 hc2 h1 h2 (by omega) (by omega) w hq hp)
    have EQ : Hid (∀ w v, RowR w v N4 (outF (outF (enc2 nv nt V) N2 2 U) N3 1 R) → RowR w v (encN nv nu nt) (encF nv nu nt V U R)) := Lib.hid (fun w v h => by
      unfold encN encF enc3
      rw [← e2, ← e3, ← e4]
      exact h)
    rw [show outF (fun _ => 0) 0 1 (cntF nv nt) = enc1 nv nt from rfl] at C1
    rw [show outF (enc1 nv nt) 2 2 V = enc2 nv nt V from rfl] at C2
    have BU := Lib.hid (fun j (hj : j < nu * 2) => show IntKind.u64.wrap (U j) = U j from IntWalk.u64_in _ (by have := gu j hj; omega))
    have BR := Lib.hid (fun j (hj : j < nt * 3) => show IntKind.u64.wrap (R j) = R j from IntWalk.u64_in _ (by have := gt j hj; omega))
    have HV := Lib.hid (And.intro HM.out.v (And.intro HM.out.u HM.out.t))
    dsimp only at HV
    have LX : Hid ((nv ≤ 64 ∧ nu ≤ 64 ∧ nt ≤ 64) ∧ 1 ≤ nv ∧ 1 ≤ nt ∧ nu = nv) := Lib.hid (by omega)
    have r1 : IntKind.u64.wrap (nv : Int) = (nv : Int) := IntWalk.u64_in _ (by omega)
    have r2 : IntKind.u64.wrap (nt : Int) = (nt : Int) := IntWalk.u64_in _ (by omega)
    have CN0 : cntF nv nt 0 = (nv : Int) := rfl
    have CN1 : cntF nv nt 1 = (nt : Int) := rfl
    have CNT : Hid ((#[.int .i64 0, .int .i64 0] : Array Value).size = 2) := Lib.hid rfl
    have CL : Hid ([Value.int .u64 (nv : Int), .int .u64 (nt : Int)] = nums .u64 (cntF nv nt) 2) := Lib.hid rfl
    clear CN0 CN1 CNT
    generalize cntF nv nt = g0 at *
    generalize enc1 nv nt = E1 at *
    generalize enc2 nv nt V = E2 at *
    generalize outF E2 N2 2 U = E3 at *
    generalize outF E3 N3 1 R = E4 at *
    generalize encN nv nu nt = NN at *
    generalize encF nv nu nt V U R = EE at *
    have M2 := Lib.hid e2; have M3 := Lib.hid e3; have M4 := Lib.hid e4
    clear e2 e3 e4 nn tt un gv gu gt
    go_enter Try.func9, Try.ntmps9
    go_upto_region 1 with fail
    obtain ⟨W0, hW⟩ : ∃ W0, W0 = (w.alloc (.cells #[.slice qv nv cv, .slice qu nu cu, .slice qt nt ct] 26)) := ⟨_, rfl⟩
    have hB0 : Below w.heap.size w W0 := hW ▸ (Below.al (Below.refl _ _))
    have HA : Hid (Own w.heap.size [.slice qv nv cv, .slice qu nu cu, .slice qt nt ct] W0) := Lib.hid (hW ▸ (Own.newAt (by simp)))
    rw [← hW]
    clear hW
    obtain ⟨A, eA⟩ : ∃ X, X = w.heap.size := ⟨_, rfl⟩
    rw [← eA] at HA ⊢
    have Aw : w.heap.size ≤ A := by omega
    clear eA
    have HM0 := Lib.hid (HM.out.later hB0)
    have oA := HA.out
    have A0 := oA.at 0 _ rfl
    have A1 := oA.at 1 _ rfl
    have A2 := oA.at 2 _ rfl
    have Al := oA.lt
    clear oA
    go_wp2_with (fail)
    go_at_call 11
    refine (CK.out _ HM0.out).mono ?_
    rintro e w1 ⟨rfl, hb⟩
    have HA1 := Lib.hid (HA.out.later hb)
    have HB1 := Lib.hid (Below.go hB0 hb)
    clear hb hB0 HM HM0 HA CK A0 A1 A2 Al
    have AF := HA1.out
    obtain ⟨i0, hi, hz0, hz1, hz2⟩ := infoI_parts
    obtain ⟨u0, ui, uz0, uz1, uz2⟩ := infoQ_parts
    clear AF
    have HVv := Lib.hid (HV.out.1.later HB1.out); have HVu := Lib.hid (HV.out.2.1.later HB1.out); have HVt := Lib.hid (HV.out.2.2.later HB1.out)
    clear HV
    have oA := HA1.out
    have A0 := oA.at 0 _ rfl
    have Al := oA.lt
    clear oA
    go_wp2_with (fail)
    clear A0 Al
    go_loopw [5, 24] (fun v iv wr => ∃ (k t : Nat) (p3 : Option Addr) (c3 : Nat), k ≤ nv ∧ Hid (t = k * 3) ∧ v = .slice p3 t c3 ∧ iv = .int .i64 k ∧ Hid (wr.ownsRow w1.heap.size 3 1 (.slice p3 t c3) t (nums .i64 V t)) ∧ Hid (Below w1.heap.size w1 wr)) (fun _ iv _ => (nv - (intOf iv).toNat))
    case atStart => exact ⟨0, 0, none, 0, Nat.zero_le _, Lib.hid (Nat.zero_mul _).symm, rfl, rfl, Lib.hid (World.ownsRow_nil _ _ _ _), Lib.hid (Below.refl _ _)⟩
    case round =>
      obtain ⟨k, t, p3, c3, hk, HT, rfl, rfl, ROW, HB⟩ := hrel
      by_cases hlt : k < nv
      · obtain ⟨D, o, rfl, hD, c0, c1, c2⟩ := (HVv.out.later HB.out).at3 hlt
        have hki : (k : Int) < (nv : Int) := by omega
        have k0 : (0 : Int) ≤ (k : Int) := by omega
        have wk : IntKind.i64.wrap ((k : Int) + 1) = (k : Int) + 1 := IntWalk.i64_in _ (by have := LX.out; omega)
        have HLT := Lib.hid hlt
        obtain ⟨x0, ex0⟩ : ∃ x, V (k * 3) = x := ⟨_, rfl⟩
        rw [ex0] at c0
        obtain ⟨x1, ex1⟩ : ∃ x, V (k * 3 + 1) = x := ⟨_, rfl⟩
        rw [ex1] at c1
        obtain ⟨x2, ex2⟩ : ∃ x, V (k * 3 + 2) = x := ⟨_, rfl⟩
        rw [ex2] at c2
        have XS : Hid (nums .i64 V t ++ [.int .i64 x0, .int .i64 x1, .int .i64 x2] = nums .i64 V (t + 3)) := Lib.hid (by
          refine nums_append .i64 V (fun i => [x0, x1, x2].getD i 0) t 3 (fun i hi => ?_)
          rw [HT.out]
          match i, hi with
          | 0, _ => exact ex0
          | 1, _ => exact ex1
          | 2, _ => exact ex2)
        have HT2 : Hid (t + 3 = (k + 1) * 3) := Lib.hid (by rw [HT.out, Nat.succ_mul])
        have T200 : t ≤ 200 := by rw [HT.out]; have := LX.out; omega
        have N63 := Lib.hid (show t + 3 ≤ maxLen by unfold maxLen; omega)
        have NBY := Lib.hid (show (t + 3) * 8 ≤ 140737488355328 by omega)
        clear hk hlt T200 ex0 ex1 ex2
        go_upto_region 8 with fail
        clear hD c0 c1 c2
        obtain ⟨y0, hW⟩ : ∃ y0, y0 = (wr.alloc (.cells #[.int .i64 x0, .int .i64 x1, .int .i64 x2] 46)) := ⟨_, rfl⟩
        have hBx : Below wr.heap.size wr y0 := hW ▸ (Below.al (Below.refl _ _))
        have HQ : Hid (Own wr.heap.size ([.int .i64 x0, .int .i64 x1, .int .i64 x2]) y0) := Lib.hid (hW ▸ (show Own wr.heap.size ([.int .i64 x0, .int .i64 x1, .int .i64 x2]) (wr.alloc (.cells #[.int .i64 x0, .int .i64 x1, .int .i64 x2] 46)) from Own.newAt (by simp)))
        rw [← hW]
        clear hW
        obtain ⟨Q, eQ⟩ : ∃ X, X = wr.heap.size := ⟨_, rfl⟩
        rw [← eQ] at HQ ⊢
        have Qw : wr.heap.size ≤ Q := by omega
        clear eQ
        have ROWy := Lib.hid (row_later ROW.out hBx)
        have HBy := Lib.hid (Below.go HB.out hBx)
        clear hBx ROW HB Qw
        have oQ := HQ.out
        have Q0 := oQ.at 0 _ rfl
        have Q1 := oQ.at 1 _ rfl
        have Q2 := oQ.at 2 _ rfl
        have Ql := oQ.lt
        clear oQ
        have HS2 : Hid (w1.heap.size ≤ (y0.alloc (.cells #[.int .i64 x0, .int .i64 x1, .int .i64 x2] 3)).heap.size) := Lib.hid (Below.al HBy.out).size
        go_wp2_with (at_builtin; refine wpList_append_own _ rfl _ _ 58 rfl w1.heap.size 3 i0 (.int .i64 0) 1 8 Try.underlying58 hi hz0 hz1 hz2 rfl (by decide) _ t _ rfl (row_later ROWy.out (Below.al (Below.refl _ _))) ⟨y0.heap.size, 0, none⟩ 3 3 [.int .i64 x0, .int .i64 x1, .int .i64 x2] rfl rfl (Own.newAt (by rfl)).news (by intro v hv; simp at hv; rcases hv with rfl | rfl | rfl <;> rfl) N63.out NBY.out HS2.out ?_; intro v' w6 hrow hgr _; obtain ⟨p', c', rfl, _⟩ := row_form hrow; rw [XS.out] at hrow; have o4 := Lib.hid ((Below.al HBy.out).grown hgr (Below.al HBy.out).size fun q hq => row_ge ROWy.out q hq); have o6 := Lib.hid hrow; clear hrow hgr)
        go_roundw
        case rel => (first | exact ⟨k + 1, t + 3, _, _, HLT.out, HT2, rfl, by go_num, o6, o4⟩ | ((repeat apply Exists.intro); exact ⟨⟨k + 1, t + 3, _, _, HLT.out, HT2, rfl, by go_num, o6, o4⟩, rfl⟩))
        case measure => (have := HLT.out; simp [intOf]; omega)
      · obtain rfl : nv = k := by omega
        clear hlt hk
        obtain ⟨w2, rfl⟩ : ∃ x, x = wr := ⟨_, rfl⟩
        have B1 := HB.out
        have NM1 := Lib.hid (nm_row ROW.out).2; have cap := row_cap_ ROW.out
        have CP1 := Lib.hid cap
        have TT1 := HT
        obtain ⟨t1, et⟩ : ∃ x, x = t := ⟨_, rfl⟩
        subst et
        obtain ⟨p1, et⟩ : ∃ x, x = p3 := ⟨_, rfl⟩
        subst et
        obtain ⟨d1, et⟩ : ∃ x, x = c3 := ⟨_, rfl⟩
        subst et
        have HA1_ := Lib.hid (HA1.out.later B1)
        clear HA1
        have HA1 := HA1_
        clear HA1_
        have HVv_ := Lib.hid (HVv.out.later B1)
        clear HVv
        have HVv := HVv_
        clear HVv_
        have HVu_ := Lib.hid (HVu.out.later B1)
        clear HVu
        have HVu := HVu_
        clear HVu_
        have HVt_ := Lib.hid (HVt.out.later B1)
        clear HVt
        have HVt := HVt_
        clear HVt_
        have HB1_ := Lib.hid (Below.go HB1.out B1)
        clear HB1 HB ROW cap HT B1
        have HB1 := HB1_
        clear HB1_
        have oA := HA1.out
        have A1 := oA.at 1 _ rfl
        have Al := oA.lt
        clear oA
        go_wp2_with (fail)
        clear A1 Al
        go_loopw [8, 41] (fun v iv wr => ∃ (k t : Nat) (p3 : Option Addr) (c3 : Nat), k ≤ nu ∧ Hid (t = k * 2) ∧ v = .slice p3 t c3 ∧ iv = .int .i64 k ∧ Hid (wr.ownsRow w2.heap.size 60 1 (.slice p3 t c3) t (nums .u64 U t)) ∧ Hid (Below w2.heap.size w2 wr)) (fun _ iv _ => (nu - (intOf iv).toNat))
        case atStart => exact ⟨0, 0, none, 0, Nat.zero_le _, Lib.hid (Nat.zero_mul _).symm, rfl, rfl, Lib.hid (World.ownsRow_nil _ _ _ _), Lib.hid (Below.refl _ _)⟩
        case round =>
          obtain ⟨k, t, p3, c3, hk, HT, rfl, rfl, ROW, HB⟩ := hrel
          by_cases hlt : k < nu
          · obtain ⟨D, o, rfl, hD, c0, c1⟩ := (HVu.out.later HB.out).at2 hlt
            have hki : (k : Int) < (nu : Int) := by omega
            have k0 : (0 : Int) ≤ (k : Int) := by omega
            have wk : IntKind.i64.wrap ((k : Int) + 1) = (k : Int) + 1 := IntWalk.i64_in _ (by have := LX.out; omega)
            have HLT := Lib.hid hlt
            obtain ⟨x0, ex0⟩ : ∃ x, U (k * 2) = x := ⟨_, rfl⟩
            rw [ex0] at c0
            have wx0 : IntKind.u64.wrap x0 = x0 := by rw [← ex0]; exact BU.out _ (by omega)
            obtain ⟨x1, ex1⟩ : ∃ x, U (k * 2 + 1) = x := ⟨_, rfl⟩
            rw [ex1] at c1
            have wx1 : IntKind.u64.wrap x1 = x1 := by rw [← ex1]; exact BU.out _ (by omega)
            have XS : Hid (nums .u64 U t ++ [.int .u64 x0, .int .u64 x1] = nums .u64 U (t + 2)) := Lib.hid (by
              refine nums_append .u64 U (fun i => [x0, x1].getD i 0) t 2 (fun i hi => ?_)
              rw [HT.out]
              match i, hi with
              | 0, _ => exact ex0
              | 1, _ => exact ex1)
            have HT2 : Hid (t + 2 = (k + 1) * 2) := Lib.hid (by rw [HT.out, Nat.succ_mul])
            have T200 : t ≤ 200 := by rw [HT.out]; have := LX.out; omega
            have N63 := Lib.hid (show t + 2 ≤ maxLen by unfold maxLen; omega)
            have NBY := Lib.hid (show (t + 2) * 8 ≤ 140737488355328 by omega)
            clear hk hlt T200 ex0 ex1
            go_upto_region 14 with fail
            clear hD c0 c1
            obtain ⟨y0, hW⟩ : ∃ y0, y0 = (wr.alloc (.cells #[.int .i64 x0, .int .i64 x1] 48)) := ⟨_, rfl⟩
            have hBx : Below wr.heap.size wr y0 := hW ▸ (Below.al (Below.refl _ _))
            have HQ : Hid (Own wr.heap.size ([.int .i64 x0, .int .i64 x1]) y0) := Lib.hid (hW ▸ (show Own wr.heap.size ([.int .i64 x0, .int .i64 x1]) (wr.alloc (.cells #[.int .i64 x0, .int .i64 x1] 48)) from Own.newAt (by simp)))
            rw [← hW]
            clear hW
            obtain ⟨Q, eQ⟩ : ∃ X, X = wr.heap.size := ⟨_, rfl⟩
            rw [← eQ] at HQ ⊢
            have Qw : wr.heap.size ≤ Q := by omega
            clear eQ
            have ROWy := Lib.hid (row_later ROW.out hBx)
            have HBy := Lib.hid (Below.go HB.out hBx)
            clear hBx ROW HB Qw
            have oQ := HQ.out
            have Q0 := oQ.at 0 _ rfl
            have Q1 := oQ.at 1 _ rfl
            have Ql := oQ.lt
            clear oQ
            have HS2 : Hid (w2.heap.size ≤ (y0.alloc (.cells #[.int .u64 x0, .int .u64 x1] 60)).heap.size) := Lib.hid (Below.al HBy.out).size
            go_wp2_with (at_builtin; refine wpList_append_own _ rfl _ _ 59 rfl w2.heap.size 60 u0 (.int .u64 0) 1 8 Try.underlying59 ui uz0 uz1 uz2 rfl (by decide) _ t _ rfl (row_later ROWy.out (Below.al (Below.refl _ _))) ⟨y0.heap.size, 0, none⟩ 2 2 [.int .u64 x0, .int .u64 x1] rfl rfl (Own.newAt (by rfl)).news (by intro v hv; simp at hv; rcases hv with rfl | rfl <;> rfl) N63.out NBY.out HS2.out ?_; intro v' w6 hrow hgr _; obtain ⟨p', c', rfl, _⟩ := row_form hrow; rw [XS.out] at hrow; have o4 := Lib.hid ((Below.al HBy.out).grown hgr (Below.al HBy.out).size fun q hq => row_ge ROWy.out q hq); have o6 := Lib.hid hrow; clear hrow hgr)
            go_roundw
            case rel => (first | exact ⟨k + 1, t + 2, _, _, HLT.out, HT2, rfl, by go_num, o6, o4⟩ | ((repeat apply Exists.intro); exact ⟨⟨k + 1, t + 2, _, _, HLT.out, HT2, rfl, by go_num, o6, o4⟩, rfl⟩))
            case measure => (have := HLT.out; simp [intOf]; omega)
          · obtain rfl : nu = k := by omega
            clear hlt hk
            obtain ⟨w3, rfl⟩ : ∃ x, x = wr := ⟨_, rfl⟩
            have B2 := HB.out
            have NM2 := Lib.hid (nm_row ROW.out).2; have cap := row_cap_ ROW.out
            have CP2 := Lib.hid cap
            have TT2 := HT
            obtain ⟨t2, et⟩ : ∃ x, x = t := ⟨_, rfl⟩
            subst et
            obtain ⟨p2, et⟩ : ∃ x, x = p3 := ⟨_, rfl⟩
            subst et
            obtain ⟨d2, et⟩ : ∃ x, x = c3 := ⟨_, rfl⟩
            subst et
            have HA1_ := Lib.hid (HA1.out.later B2)
            clear HA1
            have HA1 := HA1_
            clear HA1_
            have HVv_ := Lib.hid (HVv.out.later B2)
            clear HVv
            have HVv := HVv_
            clear HVv_
            have HVu_ := Lib.hid (HVu.out.later B2)
            clear HVu
            have HVu := HVu_
            clear HVu_
            have HVt_ := Lib.hid (HVt.out.later B2)
            clear HVt
            have HVt := HVt_
            clear HVt_
            have NM1_ := Lib.hid (NM1.out.later B2)
            clear NM1
            have NM1 := NM1_
            clear NM1_
            have HB1_ := Lib.hid (Below.go HB1.out B2)
            clear HB1 HB ROW cap HT B2
            have HB1 := HB1_
            clear HB1_
            have oA := HA1.out
            have A2 := oA.at 2 _ rfl
            have Al := oA.lt
            clear oA
            go_wp2_with (fail)
            clear A2 Al
            go_loopw [9, 58] (fun v iv wr => ∃ (k t : Nat) (p3 : Option Addr) (c3 : Nat), k ≤ nt ∧ Hid (t = k * 3) ∧ v = .slice p3 t c3 ∧ iv = .int .i64 k ∧ Hid (wr.ownsRow w3.heap.size 60 1 (.slice p3 t c3) t (nums .u64 R t)) ∧ Hid (Below w3.heap.size w3 wr)) (fun _ iv _ => (nt - (intOf iv).toNat))
            case atStart => exact ⟨0, 0, none, 0, Nat.zero_le _, Lib.hid (Nat.zero_mul _).symm, rfl, rfl, Lib.hid (World.ownsRow_nil _ _ _ _), Lib.hid (Below.refl _ _)⟩
            case round =>
              obtain ⟨k, t, p3, c3, hk, HT, rfl, rfl, ROW, HB⟩ := hrel
              by_cases hlt : k < nt
              · obtain ⟨D, o, rfl, hD, c0, c1, c2⟩ := (HVt.out.later HB.out).at3 hlt
                have hki : (k : Int) < (nt : Int) := by omega
                have k0 : (0 : Int) ≤ (k : Int) := by omega
                have wk : IntKind.i64.wrap ((k : Int) + 1) = (k : Int) + 1 := IntWalk.i64_in _ (by have := LX.out; omega)
                have HLT := Lib.hid hlt
                obtain ⟨x0, ex0⟩ : ∃ x, R (k * 3) = x := ⟨_, rfl⟩
                rw [ex0] at c0
                have wx0 : IntKind.u64.wrap x0 = x0 := by rw [← ex0]; exact BR.out _ (by omega)
                obtain ⟨x1, ex1⟩ : ∃ x, R (k * 3 + 1) = x := ⟨_, rfl⟩
                rw [ex1] at c1
                have wx1 : IntKind.u64.wrap x1 = x1 := by rw [← ex1]; exact BR.out _ (by omega)
                obtain ⟨x2, ex2⟩ : ∃ x, R (k * 3 + 2) = x := ⟨_, rfl⟩
                rw [ex2] at c2
                have wx2 : IntKind.u64.wrap x2 = x2 := by rw [← ex2]; exact BR.out _ (by omega)
                have XS : Hid (nums .u64 R t ++ [.int .u64 x0, .int .u64 x1, .int .u64 x2] = nums .u64 R (t + 3)) := Lib.hid (by
                  refine nums_append .u64 R (fun i => [x0, x1, x2].getD i 0) t 3 (fun i hi => ?_)
                  rw [HT.out]
                  match i, hi with
                  | 0, _ => exact ex0
                  | 1, _ => exact ex1
                  | 2, _ => exact ex2)
                have HT2 : Hid (t + 3 = (k + 1) * 3) := Lib.hid (by rw [HT.out, Nat.succ_mul])
                have T200 : t ≤ 200 := by rw [HT.out]; have := LX.out; omega
                have N63 := Lib.hid (show t + 3 ≤ maxLen by unfold maxLen; omega)
                have NBY := Lib.hid (show (t + 3) * 8 ≤ 140737488355328 by omega)
                clear hk hlt T200 ex0 ex1 ex2
                go_upto_region 19 with fail
                clear hD c0 c1 c2
                obtain ⟨y0, hW⟩ : ∃ y0, y0 = (wr.alloc (.cells #[.int .i64 x0, .int .i64 x1, .int .i64 x2] 52)) := ⟨_, rfl⟩
                have hBx : Below wr.heap.size wr y0 := hW ▸ (Below.al (Below.refl _ _))
                have HQ : Hid (Own wr.heap.size ([.int .i64 x0, .int .i64 x1, .int .i64 x2]) y0) := Lib.hid (hW ▸ (show Own wr.heap.size ([.int .i64 x0, .int .i64 x1, .int .i64 x2]) (wr.alloc (.cells #[.int .i64 x0, .int .i64 x1, .int .i64 x2] 52)) from Own.newAt (by simp)))
                rw [← hW]
                clear hW
                obtain ⟨Q, eQ⟩ : ∃ X, X = wr.heap.size := ⟨_, rfl⟩
                rw [← eQ] at HQ ⊢
                have Qw : wr.heap.size ≤ Q := by omega
                clear eQ
                have ROWy := Lib.hid (row_later ROW.out hBx)
                have HBy := Lib.hid (Below.go HB.out hBx)
                clear hBx ROW HB Qw
                have oQ := HQ.out
                have Q0 := oQ.at 0 _ rfl
                have Q1 := oQ.at 1 _ rfl
                have Q2 := oQ.at 2 _ rfl
                have Ql := oQ.lt
                clear oQ
                have HS2 : Hid (w3.heap.size ≤ (y0.alloc (.cells #[.int .u64 x0, .int .u64 x1, .int .u64 x2] 60)).heap.size) := Lib.hid (Below.al HBy.out).size
                go_wp2_with (at_builtin; refine wpList_append_own _ rfl _ _ 59 rfl w3.heap.size 60 u0 (.int .u64 0) 1 8 Try.underlying59 ui uz0 uz1 uz2 rfl (by decide) _ t _ rfl (row_later ROWy.out (Below.al (Below.refl _ _))) ⟨y0.heap.size, 0, none⟩ 3 3 [.int .u64 x0, .int .u64 x1, .int .u64 x2] rfl rfl (Own.newAt (by rfl)).news (by intro v hv; simp at hv; rcases hv with rfl | rfl | rfl <;> rfl) N63.out NBY.out HS2.out ?_; intro v' w6 hrow hgr _; obtain ⟨p', c', rfl, _⟩ := row_form hrow; rw [XS.out] at hrow; have o4 := Lib.hid ((Below.al HBy.out).grown hgr (Below.al HBy.out).size fun q hq => row_ge ROWy.out q hq); have o6 := Lib.hid hrow; clear hrow hgr)
                go_roundw
                case rel => (first | exact ⟨k + 1, t + 3, _, _, HLT.out, HT2, rfl, by go_num, o6, o4⟩ | ((repeat apply Exists.intro); exact ⟨⟨k + 1, t + 3, _, _, HLT.out, HT2, rfl, by go_num, o6, o4⟩, rfl⟩))
                case measure => (have := HLT.out; simp [intOf]; omega)
              · obtain rfl : nt = k := by omega
                clear hlt hk
                obtain ⟨w4, rfl⟩ : ∃ x, x = wr := ⟨_, rfl⟩
                have B3 := HB.out
                have NM3 := Lib.hid (nm_row ROW.out).2; have cap := row_cap_ ROW.out
                have CP3 := Lib.hid cap
                have TT3 := HT
                obtain ⟨t3, et⟩ : ∃ x, x = t := ⟨_, rfl⟩
                subst et
                obtain ⟨p3_, et⟩ : ∃ x, x = p3 := ⟨_, rfl⟩
                subst et
                obtain ⟨d3, et⟩ : ∃ x, x = c3 := ⟨_, rfl⟩
                subst et
                have HA1_ := Lib.hid (HA1.out.later B3)
                clear HA1
                have HA1 := HA1_
                clear HA1_
                have NM1_ := Lib.hid (NM1.out.later B3)
                clear NM1
                have NM1 := NM1_
                clear NM1_
                have NM2_ := Lib.hid (NM2.out.later B3)
                clear NM2
                have NM2 := NM2_
                clear NM2_
                have HB1_ := Lib.hid (Below.go HB1.out B3)
                clear HB1 HB ROW cap HT B3
                have HB1 := HB1_
                clear HB1_
                have oA := HA1.out
                have A0 := oA.at 0 _ rfl
                have A2 := oA.at 2 _ rfl
                have Al := oA.lt
                clear oA
                have C2_ := C2.out
                rw [← TT1.out] at C2_
                have C2t := Lib.hid C2_
                clear C2 C2_
                have C3_ := C3.out
                rw [← TT2.out] at C3_
                have C3t := Lib.hid C3_
                clear C3 C3_
                have C4_ := C4.out
                rw [← TT3.out] at C4_
                have C4t := Lib.hid C4_
                clear C4 C4_
                clear BU BR
                go_wp2_with (fail)
                go_at_call 20
                refine (C1.out _ _ (nm_new CL.out)).mono ?_
                rintro e w5 ⟨⟨v1, rfl, q1, a1, rfl, hn, hx, hby⟩, hb0⟩
                have hb := Below.go (Below.al (o := .cells #[.int .u64 (nv : Int), .int .u64 (nt : Int)] 60) (Below.refl w4.heap.size w4)) hb0
                have BY1 := Lib.hid hby
                have X1 := Lib.hid (And.intro hn hx)
                have NM1_ := Lib.hid (NM1.out.later hb)
                clear NM1
                have NM1 := NM1_
                clear NM1_
                have NM2_ := Lib.hid (NM2.out.later hb)
                clear NM2
                have NM2 := NM2_
                clear NM2_
                have NM3_ := Lib.hid (NM3.out.later hb)
                clear NM3
                have NM3 := NM3_
                clear NM3_
                have HB2 := Lib.hid (Below.go HB1.out hb)
                clear hn hx hby hb hb0 HB1 A0 A2 Al C1
                go_wp2_with (fail)
                go_at_call 21
                refine (C2t.out q1 a1 X1.out.1 X1.out.2 p1 d1 CP1.out.1 CP1.out.2 _ BY1.out NM1.out).mono ?_
                rintro e w6 ⟨⟨v2, rfl, q2, a2, rfl, hn, hx, hby⟩, hb⟩
                have BY2 := Lib.hid hby
                have X2 := Lib.hid (And.intro hn hx)
                have NM2_ := Lib.hid (NM2.out.later hb)
                clear NM2
                have NM2 := NM2_
                clear NM2_
                have NM3_ := Lib.hid (NM3.out.later hb)
                clear NM3
                have NM3 := NM3_
                clear NM3_
                have HB3 := Lib.hid (Below.go HB2.out hb)
                clear hn hx hby hb HB2 NM1 BY1 C2t
                go_wp2_with (fail)
                go_at_call 20
                refine (C3t.out q2 a2 X2.out.1 X2.out.2 p2 d2 CP2.out.1 CP2.out.2 _ BY2.out NM2.out).mono ?_
                rintro e w7 ⟨⟨v3, rfl, q3, a3, rfl, hn, hx, hby⟩, hb⟩
                have BY3 := Lib.hid hby
                have X3 := Lib.hid (And.intro hn hx)
                have NM3_ := Lib.hid (NM3.out.later hb)
                clear NM3
                have NM3 := NM3_
                clear NM3_
                have HB4 := Lib.hid (Below.go HB3.out hb)
                clear hn hx hby hb HB3 NM2 BY2 C3t
                go_wp2_with (fail)
                go_at_call 20
                refine (C4t.out q3 a3 X3.out.1 X3.out.2 p3_ d3 CP3.out.1 CP3.out.2 _ BY3.out NM3.out).mono ?_
                rintro e w8 ⟨⟨v4, rfl, hr⟩, hb⟩
                have RW := Lib.hid (EQ.out _ _ hr)
                have HB5 := Lib.hid (Below.go HB4.out hb)
                clear hr hb HB4 NM3 BY3 C4t
                go_wp2_with (fail)
                exact bodyPost_ret (v := .tuple #[v4, .int .i64 0]) (by simp [results, Try.results9, go_sem]) rfl ⟨⟨_, rfl, RW.out⟩, HB5.out⟩
  · have hd : (z != 0) = true := by simpa using hz
    rw [show encL z (encN M.nv M.nu M.nt) = 0 from if_neg hz]
    clear GD
    go_enter Try.func9, Try.ntmps9
    go_upto_region 1 with fail
    obtain ⟨W0, hW⟩ : ∃ W0, W0 = (w.alloc (.cells #[.slice M.qv M.nv M.cv, .slice M.qu M.nu M.cu, .slice M.qt M.nt M.ct] 26)) := ⟨_, rfl⟩
    have hB0 : Below w.heap.size w W0 := hW ▸ (Below.al (Below.refl _ _))
    have HA : Hid (Own w.heap.size [.slice M.qv M.nv M.cv, .slice M.qu M.nu M.cu, .slice M.qt M.nt M.ct] W0) := Lib.hid (hW ▸ (Own.newAt (by simp)))
    rw [← hW]
    clear hW
    obtain ⟨A, eA⟩ : ∃ X, X = w.heap.size := ⟨_, rfl⟩
    rw [← eA] at HA ⊢
    have Aw : w.heap.size ≤ A := by omega
    clear eA
    have HM0 := Lib.hid (HM.out.later hB0)
    have oA := HA.out
    have A0 := oA.at 0 _ rfl
    have A1 := oA.at 1 _ rfl
    have A2 := oA.at 2 _ rfl
    have Al := oA.lt
    clear oA
    go_wp2_with (fail)
    go_at_call 11
    refine (CK.out _ HM0.out).mono ?_
    rintro e w1 ⟨rfl, hb⟩
    have HB1 := Lib.hid (Below.go hB0 hb)
    clear hb hB0 HM HM0 HA CK A0 A1 A2 Al
    go_wp2_with (fail)
    exact bodyPost_ret (v := .tuple #[.slice none 0 0, .int .i64 z]) (by simp [results, Try.results9, go_sem]) rfl ⟨⟨_, rfl, none, 0, rfl, Nat.le_refl _, by decide, .inl rfl⟩, HB1.out⟩
end Go.Proofs.Ytnopcgkhoennfaa
