/- SG SK SU SZ SY, in one text. -/
import Derived.Test.YtnopcgkhoennfaaSA
import Derived.Test.YtnopcgkhoennfaaDG
import Derived.Lib.Hide
import Derived.LoopN
import Derived.LoopTactic
import Derived.Deep.Onto
import Derived.Deep.RegionHeld3
import Derived.Deep.QuietTactic
import Derived.BigQuiet
import Derived.StillTailTactics
import Derived.Lib.SliceRun
import Derived.Test.YtnopcgkhoennfaaSF
import Derived.Test.YtnopcgkhoennfaaSI
import Derived.Great.BuildSlice
import Derived.Test.YtnopcgkhoennfaaMSD
import Derived.Test.YtnopcgkhoennfaaCT
/- SG -/
namespace Go.Proofs.Ytnopcgkhoennfaa
set_option linter.unusedVariables false
set_option maxRecDepth 2000
set_option linter.unusedSimpArgs false
open Go.RowKit
attribute [local go_sem ↓ high] sliced_head
set_option maxHeartbeats 8000000 in
theorem Few_any (qv qu qt : Option Addr) (nv cv nu cu nt ct a b c : Nat) (ea : min (nv : Int) 70 = (a : Int)) (eb : min (nu : Int) 70 = (b : Int)) (ec : min (nt : Int) 70 = (c : Int)) (lv : nv ≤ cv) (lu : nu ≤ cu) (lt : nt ≤ ct) (xv : cv ≤ 9223372036854775807) (xu : cu ≤ 9223372036854775807) (xt : ct ≤ 9223372036854775807) (w : World) :
    Calls Try.prog 8 #[.agg #[.slice qv nv cv, .slice qu nu cu, .slice qt nt ct]] w fun e w' => e = .returned (.agg #[.slice qv a cv, .slice qu b cu, .slice qt c ct]) ∧ Below w.heap.size w w' := by
  have a0 : (0 : Int) ≤ (a : Int) := by omega
  have b0 : (0 : Int) ≤ (b : Int) := by omega
  have c0 : (0 : Int) ≤ (c : Int) := by omega
  have a1 : (a : Int) ≤ (cv : Int) := by omega
  have b1 : (b : Int) ≤ (cu : Int) := by omega
  have c1 : (c : Int) ≤ (ct : Int) := by omega
  clear lv lu lt xv xu xt
  go_enter Try.func8, Try.ntmps8
  go_upto_region 1 with fail
  obtain ⟨W0, hW⟩ : ∃ W0, W0 = ((w.alloc (.cells #[.slice qv nv cv, .slice qu nu cu, .slice qt nt ct] 26)).alloc (.cells #[.slice none 0 0, .slice none 0 0, .slice none 0 0] 26)) := ⟨_, rfl⟩
  have hB0 : Below w.heap.size w W0 := hW ▸ (Below.al (Below.al (Below.refl _ _)))
  have HA : Hid (Own w.heap.size [.slice qv nv cv, .slice qu nu cu, .slice qt nt ct] W0) := Lib.hid (hW ▸ (Own.newAt (by simp)).alloc)
  have HR : Hid (Own (w.heap.size + 1) [.slice none 0 0, .slice none 0 0, .slice none 0 0] W0) := Lib.hid (hW ▸ (Own.newAt (by simp)))
  rw [← hW]
  clear hW
  obtain ⟨R, eR⟩ : ∃ X, X = (w.heap.size + 1) := ⟨_, rfl⟩
  rw [← eR] at HR ⊢
  have Rw : w.heap.size ≤ R := by omega
  obtain ⟨A, eA⟩ : ∃ X, X = w.heap.size := ⟨_, rfl⟩
  rw [← eA] at HA ⊢
  have Aw : w.heap.size ≤ A := by omega
  have nAR : A ≠ R := by omega
  have nRA : R ≠ A := by omega
  clear eA eR
  have oA := HA.out
  have A0 := oA.at 0 _ rfl
  have A1 := oA.at 1 _ rfl
  have A2 := oA.at 2 _ rfl
  have Al := oA.lt
  clear oA
  have oR := HR.out
  have R0 := oR.at 0 _ rfl
  have Rf0 := oR.ok 0 (by simp)
  have R1 := oR.at 1 _ rfl
  have Rf1 := oR.ok 1 (by simp)
  have R2 := oR.at 2 _ rfl
  have Rf2 := oR.ok 2 (by simp)
  have Rl := oR.lt
  clear oR
  refine wp_region_still_tail 22 (by kernel_rfl) (by kernel_rfl) ?_; simp only [List.take_succ_cons, List.take_zero, List.drop_succ_cons, List.drop_zero]; change wpStill _ _ (World.drew _) (fun a1 => wpList _ _ _ _ a1 (World.drew _)) _ _; repeat still_step
  refine wpStill_nil ?_
  clear ea eb ec a0 b0 c0 a1 b1 c1 A0 A1 A2 Al R0 Rf0 R1 Rf1 R2 Rf2 Rl
  have HRd := Lib.hid (HR.out.drew)
  refine wpList_store_mid rfl 26 _ _ rfl R 0 ([.slice qv a cv, .slice qu b cu, .slice qt c ct]).toArray rfl rfl HRd.out.free (by kernel_rfl) (by simp [Value.oneCell']) ?_
  have HR5 : Hid (Own R [.slice qv a cv, .slice qu b cu, .slice qt c ct] (W0.drew.setCells R 0 [.slice qv a cv, .slice qu b cu, .slice qt c ct])) := Lib.hid (Own.store HRd.out rfl)
  have HB5 : Below w.heap.size w (W0.drew.setCells R 0 [.slice qv a cv, .slice qu b cu, .slice qt c ct]) := Below.setCells hB0.drew Rw _ _
  change wpList _ _ _ [] _ (W0.drew.setCells R 0 [.slice qv a cv, .slice qu b cu, .slice qt c ct])
  generalize W0.drew.setCells R 0 [.slice qv a cv, .slice qu b cu, .slice qt c ct] = W5 at *
  go_wp2_with (fail)
  have hL := run_loadVar_mid (P := Try.prog) _ R 0 26 [.slice qv a cv, .slice qu b cu, .slice qt c ct] _ HR5.out.cell Try.underlying26 rfl (by kernel_rfl)
  exact bodyPost_ret (v := .agg ([.slice qv a cv, .slice qu b cu, .slice qt c ct] : List Value).toArray) (res_cell Try.results8 rfl hL) rfl ⟨rfl, HB5⟩
end Go.Proofs.Ytnopcgkhoennfaa

/- SK -/
namespace Go.Proofs.Ytnopcgkhoennfaa
set_option linter.unusedVariables false
set_option maxRecDepth 2000
set_option linter.unusedSimpArgs false
open Go.RowKit
def vec3 (x y z : Int) (k : Nat) : Int := [x, y, z].getD k 0
set_option maxHeartbeats 4000000 in
theorem Point_any (q : Option Addr) (m c N : Nat) (f : Nat → Int) (x y z : Int) (eN : m + 2 * 3 = N) (hx : -4096 ≤ x ∧ x ≤ 4096) (hy : -4096 ≤ y ∧ y ≤ 4096) (hz : -4096 ≤ z ∧ z ≤ 4096) (hmc : m ≤ c) (hc : c ≤ 9223372036854775807) (hm : m ≤ 100000) (w : World) (hq : Byt w q m f) :
    Calls Try.prog 22 #[.slice q m c, .agg #[.int .i64 x, .int .i64 y, .int .i64 z]] w fun e w' => (∃ v, e = .returned v ∧ w'.ownsRow w.heap.size 5 1 v N (nums .u8 (outF f m 2 (vec3 x y z)) N)) ∧ Below w.heap.size w w' := by
  have C := Lib.hid (fun p w hq hp => RSigned_ok q p m c 3 3 N f (vec3 x y z) eN (fun k hk => by
    match k, hk with
    | 0, _ => exact hx
    | 1, _ => exact hy
    | 2, _ => exact hz) hmc hc (by decide) (by decide) hm (by decide) w hq hp)
  have HQ := Lib.hid hq
  have CL : Hid ([Value.int .i64 x, .int .i64 y, .int .i64 z] = nums .i64 (vec3 x y z) 3) := Lib.hid rfl
  clear hq hx hy hz hmc hc hm eN
  generalize vec3 x y z = g at *
  go_enter Try.func22, Try.ntmps22
  go_wp2_with (fail)
  go_at_call 35
  have hA := Below.al (o := .cells #[.int .i64 x, .int .i64 y, .int .i64 z] 3) (Below.al (o := .cells #[.int .i64 x, .int .i64 y, .int .i64 z] 46) (Below.refl w.heap.size w))
  refine (C.out _ _ (HQ.out.later hA) (nm_newAt (by simp) CL.out)).mono ?_
  rintro e w1 ⟨⟨v, rfl, hr⟩, hb⟩
  have HR := Lib.hid (row_base hr hA.size); have HB := Lib.hid (Below.go hA hb)
  clear hr hb hA C HQ CL
  go_wp2_with (fail)
  go_ret
  exact ⟨⟨v, rfl, HR.out⟩, HB.out⟩
theorem encF_0 (nv nu nt : Nat) (V U R : Nat → Int) (j : Nat) (h : j < 2) : encF nv nu nt V U R j = dg (cntF nv nt j) 0 := by
  have e := outF_dg (fun _ => 0) 0 1 (cntF nv nt) j 0 (by decide)
  rw [Nat.zero_add, Nat.one_mul, Nat.add_zero] at e
  unfold encF enc3 enc2 enc1
  rw [outF_head _ _ _ _ (by omega), outF_head _ _ _ _ (by omega), outF_head _ _ _ _ (by omega), e]
theorem encF_v (nv nu nt : Nat) (V U R : Nat → Int) (k i : Nat) (h : k < nv * 3) (hi : i < 2) : encF nv nu nt V U R (2 + 2 * k + i) = dg (V k) i := by
  unfold encF enc3
  rw [outF_head _ _ _ _ (by omega), outF_head _ _ _ _ (by omega)]
  exact outF_dg _ _ _ _ k i hi
theorem encF_u (nv nu nt : Nat) (V U R : Nat → Int) (k i : Nat) (h : k < nu * 2) (hi : i < 2) : encF nv nu nt V U R (2 + 2 * (nv * 3) + 2 * k + i) = dg (U k) i := by
  unfold encF
  rw [outF_head _ _ _ _ (by omega)]
  exact outF_dg _ _ _ _ k i hi
theorem encF_t (nv nu nt : Nat) (V U R : Nat → Int) (k : Nat) : encF nv nu nt V U R (2 + 2 * (nv * 3) + 2 * (nu * 2) + k) = dg (R k) 0 := by
  have := outF_dg (enc3 nv nu nt V U) (2 + 2 * (nv * 3) + 2 * (nu * 2)) 1 R k 0 (by decide)
  rw [Nat.one_mul, Nat.add_zero] at this
  exact this
theorem dg_0 {x : Int} (h : 0 ≤ x ∧ x ≤ 255) : dg x 0 = x := by unfold dg; rw [pw_zero]; omega
theorem dg_1 (x : Int) : dg x 1 = x / 256 % 256 := by unfold dg; rw [pw_vals.1]
theorem dg_00 (x : Int) : dg x 0 = x % 256 := by unfold dg; rw [pw_zero]; omega
set_option maxHeartbeats 16000000 in
theorem REncode_any (M : Msh) (w : World) (hM : MeshAt M w) : Calls Try.prog 10 #[(.agg #[.slice M.qv M.nv M.cv, .slice M.qu M.nu M.cu, .slice M.qt M.nt M.ct])] w fun e w' => (∃ v, e = .returned (.tuple #[v, .int .i64 (chkM M)]) ∧ RowR w' v (encL (chkM M) (encN M.nv M.nu M.nt)) (encF M.nv M.nu M.nt M.V M.U M.R)) ∧ Below w.heap.size w w' := by
  have HM := Lib.hid hM
  have CK := Lib.hid (RCheck_any M)
  have GD := Lib.hid (@chk_good M.nv M.nu M.nt M.V M.U M.R)
  have HZ : Hid (chkM M = chkF M.nv M.nu M.nt M.V M.U M.R) := Lib.hid rfl
  obtain ⟨z, ez⟩ : ∃ z, chkM M = z := ⟨_, rfl⟩
  rw [HZ.out] at ez
  rw [ez] at GD HZ
  rw [HZ.out] at CK ⊢
  clear ez HZ hM
  by_cases hz : z = 0
  · subst hz
    have GO := GD.out rfl
    clear GD
    obtain ⟨qv, nv, cv, V, qu, nu, cu, U, qt, nt, ct, R⟩ := M
    dsimp only at *
    obtain ⟨nn, tt, un, gv, gu, gt⟩ := GO
    rw [show encL 0 (encN nv nu nt) = encN nv nu nt from rfl]
    have F0 := Lib.hid (show encF nv nu nt V U R 0 = (nv : Int) by rw [encF_0 _ _ _ _ _ _ 0 (by decide)]; show dg (nv : Int) 0 = _; exact dg_0 (by omega))
    have F1 := Lib.hid (show encF nv nu nt V U R 1 = (nt : Int) by rw [encF_0 _ _ _ _ _ _ 1 (by decide)]; show dg (nt : Int) 0 = _; exact dg_0 (by omega))
    have FV := Lib.hid (encF_v nv nu nt V U R); have FU := Lib.hid (encF_u nv nu nt V U R); have FT := Lib.hid (encF_t nv nu nt V U R)
    have EN : Hid (encN nv nu nt = 2 + nv * 6 + nu * 4 + nt * 3) := Lib.hid (by unfold encN; omega)
    have HV := Lib.hid (And.intro HM.out.v (And.intro HM.out.u HM.out.t))
    dsimp only at HV
    have LX : Hid ((nv ≤ 64 ∧ nu ≤ 64 ∧ nt ≤ 64) ∧ 1 ≤ nv ∧ 1 ≤ nt ∧ nu = nv) := Lib.hid (by omega)
    have GV := Lib.hid gv; have GU := Lib.hid gu; have GT := Lib.hid gt
    have r1 : IntKind.u8.wrap (nv : Int) = (nv : Int) := by rw [IntKind.wrap_u8']; omega
    have r2 : IntKind.u8.wrap (nt : Int) = (nt : Int) := by rw [IntKind.wrap_u8']; omega
    generalize encF nv nu nt V U R = EE at *
    generalize encN nv nu nt = NN at *
    clear gv gu gt nn tt un
    have CL : Hid ([Value.int .u8 (nv : Int), .int .u8 (nt : Int)] = nums .u8 EE 2) := Lib.hid (by rw [← F0.out, ← F1.out]; rfl)
    clear F0 F1
    obtain ⟨b0, bi, bz0, bz1, bz2⟩ := infoB_parts
    go_enter Try.func10, Try.ntmps10
    go_upto_region 1 with fail
    obtain ⟨W0, hW⟩ : ∃ W0, W0 = (w.alloc (.cells #[.slice qv nv cv, .slice qu nu cu, .slice qt nt ct] 26)) := ⟨_, rfl⟩
    have hB0 : Below w.heap.size w W0 := hW ▸ (Below.al (Below.refl _ _))
    have HA : Hid (Own w.heap.size [.slice qv nv cv, .slice qu nu cu, .slice qt nt ct] W0) := Lib.hid (hW ▸ (Own.newAt (by simp)))
    rw [← hW]
    clear hW
    obtain ⟨A, eA⟩ : ∃ X, X = w.heap.size := ⟨_, rfl⟩
    rw [← eA] at HA ⊢
    have Aw : w.heap.size ≤ A := by omega
    clear eA
    have HM0 := Lib.hid (HM.out.later hB0)
    have oA := HA.out
    have A0 := oA.at 0 _ rfl
    have A1 := oA.at 1 _ rfl
    have A2 := oA.at 2 _ rfl
    have Al := oA.lt
    clear oA
    go_wp2_with (fail)
    go_at_call 12
    refine (CK.out _ HM0.out).mono ?_
    rintro e w1 ⟨rfl, hb⟩
    have HA1 := Lib.hid (HA.out.later hb)
    have HB1 := Lib.hid (Below.go hB0 hb)
    have HVv := Lib.hid (HV.out.1.later HB1.out); have HVu := Lib.hid (HV.out.2.1.later HB1.out); have HVt := Lib.hid (HV.out.2.2.later HB1.out)
    clear hb hB0 HM HM0 HA CK A0 A1 A2 Al HV
    have oA := HA1.out
    have A0 := oA.at 0 _ rfl
    have A2 := oA.at 2 _ rfl
    have Al := oA.lt
    clear oA
    go_upto_region 5 with fail
    clear A0 A2 Al
    have ROW0 : Hid ((w1.alloc (.cells #[.int .u8 (nv : Int), .int .u8 (nt : Int)] 5)).ownsRow w1.heap.size 5 1 (.slice (some ⟨w1.heap.size, 0, none⟩) 2 2) 2 (nums .u8 EE 2)) := Lib.hid (by rw [← CL.out]; exact World.ownsRow_lit w1 #[.int .u8 (nv : Int), .int .u8 (nt : Int)] 2 (Nat.le_refl _) (by decide) rfl)
    have hb := Below.al (o := .cells #[.int .u8 (nv : Int), .int .u8 (nt : Int)] 5) (Below.refl w1.heap.size w1)
    have BB := Lib.hid hb
    generalize (w1.alloc (.cells #[.int .u8 (nv : Int), .int .u8 (nt : Int)] 5)) = w2 at *
    obtain ⟨S0, es⟩ : ∃ S, S = w1.heap.size := ⟨_, rfl⟩
    rw [← es] at ROW0 ⊢
    clear hb r1 r2 CL
    rw [es] at ROW0
    have ROW : Hid (w2.ownsRow w1.heap.size 5 1 (.slice (some ⟨S0, 0, none⟩) 2 2) 2 (nums .u8 EE 2)) := Lib.hid (by rw [es]; exact ROW0.out)
    clear ROW0 es
    go_wp2_with (fail)
    go_loopw [5, 6] (fun v iv wr => ∃ (k t : Nat) (p3 : Option Addr) (c3 : Nat), k ≤ nv ∧ Hid (t = 2 + k * 6) ∧ v = .slice p3 t c3 ∧ iv = .int .i64 k ∧ Hid (wr.ownsRow w1.heap.size 5 1 (.slice p3 t c3) t (nums .u8 EE t)) ∧ Hid (Below w1.heap.size w1 wr)) (fun _ iv _ => (nv - (intOf iv).toNat))
    case atStart => exact ⟨0, 2, _, _, Nat.zero_le _, Lib.hid rfl, rfl, rfl, ROW, BB⟩
    case round =>
      clear ROW BB
      obtain ⟨k, t, p3, c3, hk, HT, rfl, rfl, ROW, HB⟩ := hrel
      by_cases hlt : k < nv
      · obtain ⟨D, o, rfl, hD, c0, c1, c2⟩ := (HVv.out.later HB.out).at3 hlt
        have hki : (k : Int) < (nv : Int) := by omega
        have k0 : (0 : Int) ≤ (k : Int) := by omega
        have wk : IntKind.i64.wrap ((k : Int) + 1) = (k : Int) + 1 := IntWalk.i64_in _ (by have := LX.out; omega)
        have HLT := Lib.hid hlt
        have HAk := Lib.hid (HA1.out.later HB.out)
        have PT := Lib.hid (Point_any p3 t c3 (t + 6) EE (V (k * 3)) (V (k * 3 + 1)) (V (k * 3 + 2)) rfl (GV.out _ (by omega)) (GV.out _ (by omega)) (GV.out _ (by omega)) (row_cap_ ROW.out).1 (row_cap_ ROW.out).2 (by have := HT.out; have := LX.out; omega) wr (byt_row ROW.out).2)
        have XS : Hid (nums .u8 (outF EE t 2 (vec3 (V (k * 3)) (V (k * 3 + 1)) (V (k * 3 + 2)))) (t + 6) = nums .u8 EE (t + 6)) := Lib.hid (nums_congr .u8 (fun j hj => by
          by_cases h : j < t
          · exact outF_head _ _ _ _ h
          · obtain ⟨a, ea⟩ : ∃ a, a = (j - t) / 2 := ⟨_, rfl⟩
            obtain ⟨i, ei⟩ : ∃ i, i = (j - t) % 2 := ⟨_, rfl⟩
            have hi : i < 2 := by omega
            have ha : a < 3 := by omega
            have h1 := outF_dg EE t 2 (vec3 (V (k * 3)) (V (k * 3 + 1)) (V (k * 3 + 2))) a i hi
            have h2 := FV.out (k * 3 + a) i (by omega) hi
            rw [show t + 2 * a + i = j by omega] at h1
            rw [show 2 + 2 * (k * 3 + a) + i = j by have := HT.out; omega] at h2
            rw [h1, h2]
            match a, ha with
            | 0, _ => rfl
            | 1, _ => rfl
            | 2, _ => rfl))
        have HT2 : Hid (t + 6 = 2 + (k + 1) * 6) := Lib.hid (by have := HT.out; omega)
        clear hk hlt
        have oA := HAk.out
        have A0 := oA.at 0 _ rfl
        have Al := oA.lt
        clear oA
        go_wp2_with (fail)
        go_at_call 22
        refine PT.out.mono ?_
        rintro e w6 ⟨⟨v, rfl, hr⟩, hb⟩
        obtain ⟨p', c', rfl, _⟩ := row_form hr
        rw [XS.out] at hr
        have o6 := Lib.hid (row_base hr HB.out.size); have o4 := Lib.hid (Below.go HB.out hb)
        clear hr hb A0 Al c0 c1 c2 hD PT XS HAk ROW HB
        go_wp2_with (fail)
        go_roundw
        case rel => (first | exact ⟨k + 1, t + 6, _, _, HLT.out, HT2, rfl, by go_num, o6, o4⟩ | ((repeat apply Exists.intro); exact ⟨⟨k + 1, t + 6, _, _, HLT.out, HT2, rfl, by go_num, o6, o4⟩, rfl⟩))
        case measure => (have := HLT.out; simp [intOf]; omega)
      · obtain rfl : nv = k := by omega
        clear hlt hk
        have HAk := Lib.hid (HA1.out.later HB.out)
        have oA := HAk.out
        have A0 := oA.at 0 _ rfl
        have Al := oA.lt
        clear oA
        go_wp2_with (fail)
        clear A0 Al HAk
        go_loopw [5, 7] (fun v iv wr => ∃ (i t : Nat) (p3 : Option Addr) (c3 : Nat), i ≤ nu ∧ Hid (t = 2 + nv * 6 + i * 4) ∧ v = .slice p3 t c3 ∧ iv = .int .i64 i ∧ Hid (wr.ownsRow w1.heap.size 5 1 (.slice p3 t c3) t (nums .u8 EE t)) ∧ Hid (Below w1.heap.size w1 wr)) (fun _ iv _ => (nu - (intOf iv).toNat))
        case atStart => exact ⟨0, t, _, _, Nat.zero_le _, Lib.hid (by have := HT.out; omega), rfl, rfl, ROW, HB⟩
        case round =>
          clear ROW HB HT
          obtain ⟨i, t, p3, c3, hi, HT, rfl, rfl, ROW, HB⟩ := hrel
          by_cases hlt : i < nu
          · obtain ⟨D, o, eq, hD, hh⟩ := HVu.out.at hlt
            subst eq
            have HC := Lib.hid hh
            have hki : (i : Int) < (nu : Int) := by omega
            have k0 : (0 : Int) ≤ (i : Int) := by omega
            have wk : IntKind.i64.wrap ((i : Int) + 1) = (i : Int) + 1 := IntWalk.i64_in _ (by have := LX.out; omega)
            have HLT := Lib.hid hlt
            have HAk := Lib.hid (HA1.out.later HB.out)
            clear hi hlt hh hD
            have oA := HAk.out
            have A1 := oA.at 1 _ rfl
            have Al := oA.lt
            clear oA
            go_wp2_with (fail)
            clear A1 Al HAk
            go_loopw [5, 8] (fun v jv wr => ∃ (k s : Nat) (p3 : Option Addr) (c3 : Nat), k ≤ 2 ∧ Hid (s = t + k * 2) ∧ v = .slice p3 s c3 ∧ jv = .int .i64 k ∧ Hid (wr.ownsRow w1.heap.size 5 1 (.slice p3 s c3) s (nums .u8 EE s)) ∧ Hid (Below w1.heap.size w1 wr)) (fun _ jv _ => (2 - (intOf jv).toNat))
            case atStart => exact ⟨0, t, _, _, Nat.zero_le _, Lib.hid (by omega), rfl, rfl, ROW, HB⟩
            case round =>
              clear ROW HB
              obtain ⟨k, s, p3, c3, hk, HS, rfl, rfl, ROW, HB⟩ := hrel
              by_cases hkt : k < 2
              · have hji : (k : Int) < 2 := by omega
                have j0 : (0 : Int) ≤ (k : Int) := by omega
                have wj : IntKind.i64.wrap ((k : Int) + 1) = (k : Int) + 1 := IntWalk.i64_in _ (by omega)
                have hcell := (HC.out.later HB.out).at k _ (nums_at _ _ hkt)
                have Dl := (HC.out.later HB.out).lt
                have gx := GU.out (i * 2 + k) (by have := HLT.out; omega)
                have f0 := FU.out (i * 2 + k) 0 (by have := HLT.out; omega) (by decide)
                have f1 := FU.out (i * 2 + k) 1 (by have := HLT.out; omega) (by decide)
                rw [show 2 + 2 * (nv * 3) + 2 * (i * 2 + k) + 0 = s by have := HS.out; have := HT.out; omega, dg_00] at f0
                rw [show 2 + 2 * (nv * 3) + 2 * (i * 2 + k) + 1 = s + 1 by have := HS.out; have := HT.out; omega, dg_1] at f1
                obtain ⟨x, ex0⟩ : ∃ x, U (i * 2 + k) = x := ⟨_, rfl⟩
                rw [ex0] at gx f0 f1
                have ex := Lib.hid ex0
                clear ex0
                obtain ⟨y0, e0⟩ : ∃ y, x % 256 = y := ⟨_, rfl⟩
                obtain ⟨y1, e1⟩ : ∃ y, x / 256 = y := ⟨_, rfl⟩
                have m1 : x.tmod 256 = y0 := by rw [Int.tmod_eq_emod_of_nonneg gx.1]; exact e0
                have d1 : x.tdiv 256 = y1 := by rw [Int.tdiv_eq_ediv_of_nonneg gx.1]; exact e1
                have v0 : IntKind.u8.wrap y0 = y0 := by rw [IntKind.wrap_u8']; omega
                have v1 : IntKind.u8.wrap y1 = y1 := by rw [IntKind.wrap_u8']; omega
                have z1 : IntKind.i64.wrap y1 = y1 := IntWalk.i64_in _ (by omega)
                have XS : Hid (nums .u8 EE s ++ [.int .u8 y0, .int .u8 y1] = nums .u8 EE (s + 2)) := Lib.hid (by
                  refine nums_append .u8 EE (fun i => [y0, y1].getD i 0) s 2 (fun i hi => ?_)
                  match i, hi with
                  | 0, _ => rw [Nat.add_zero, f0]; exact e0
                  | 1, _ => rw [f1, e1]; show y1 % 256 = y1; omega)
                have HS2 : Hid (s + 2 = t + (k + 1) * 2) := Lib.hid (by have := HS.out; omega)
                have S9 : s ≤ 1000 := by have := HS.out; have := HT.out; have := LX.out; have := HLT.out; omega
                have N63 := Lib.hid (show s + 2 ≤ maxLen by unfold maxLen; omega)
                have NBY := Lib.hid (show (s + 2) * 1 ≤ 140737488355328 by omega)
                have HKT := Lib.hid hkt
                have HAk := Lib.hid (HA1.out.later HB.out)
                clear hk hkt f0 f1 e0 e1 S9 gx
                go_wp2_with (fail)
                clear hcell Dl
                have SH : Hid (∀ w', Below wr.heap.size wr w' → (w'.cell? ⟨A, 1, none⟩ = some (.slice (some ⟨D, o, none⟩) nu cu) ∧ w'.cell? ⟨D, o + i * 2 + k, none⟩ = some (.int .i64 x) ∧ A < w'.heap.size ∧ D < w'.heap.size)) := Lib.hid fun w' hb => ⟨(HAk.out.later hb).at 1 _ rfl, by have := ((HC.out.later HB.out).later hb).at k _ (nums_at _ _ HKT.out); rw [show U (i * 2 + k) = x from ex.out] at this; exact this, (HAk.out.later hb).lt, ((HC.out.later HB.out).later hb).lt⟩
                have hBd := Below.drew (Below.refl wr.heap.size wr)
                refine wp_region_held_drew (S := fun w' => (w'.cell? ⟨A, 1, none⟩ = some (.slice (some ⟨D, o, none⟩) nu cu) ∧ w'.cell? ⟨D, o + i * 2 + k, none⟩ = some (.int .i64 x) ∧ A < w'.heap.size ∧ D < w'.heap.size)) (by kernel_rfl) (SH.out _ hBd) (fun hHeld => ?_)
                refine wpAnyH_take (i := 0) (v := .slice p3 s c3) rfl (by kernel_rfl) (by kernel_rfl) (by kernel_rfl) (fun _ _ _ h => h) (Or.inl ⟨by rfl, fun w hSw => ?_⟩) (by assumption) ?_
                · (try dsimp only at hSw); go_simp
                try simp only [Act.put, List.getElem_toArray, List.getElem_cons_zero, List.getElem_cons_succ, List.setIfInBounds_toArray, List.set_cons_zero, List.set_cons_succ]
                refine wpAnyH_take (i := 1) (v := .pointer (some ⟨A, 1, none⟩)) rfl (by kernel_rfl) (by kernel_rfl) (by kernel_rfl) (fun _ _ _ h => h) (Or.inl ⟨by rfl, fun w hSw => ?_⟩) (by assumption) ?_
                · (try dsimp only at hSw); go_simp
                try simp only [Act.put, List.getElem_toArray, List.getElem_cons_zero, List.getElem_cons_succ, List.setIfInBounds_toArray, List.set_cons_zero, List.set_cons_succ]
                refine wpAnyH_take (i := 2) (v := .slice (some ⟨D, o, none⟩) nu cu) rfl (by kernel_rfl) (by kernel_rfl) (by kernel_rfl) (fun _ _ _ h => h) (Or.inl ⟨by rfl, fun w hSw => ?_⟩) (by assumption) ?_
                · (try dsimp only at hSw); go_simp
                try simp only [Act.put, List.getElem_toArray, List.getElem_cons_zero, List.getElem_cons_succ, List.setIfInBounds_toArray, List.set_cons_zero, List.set_cons_succ]
                refine wpAnyH_take (i := 3) (v := .int .i64 (i : Int)) rfl (by kernel_rfl) (by kernel_rfl) (by kernel_rfl) (fun _ _ _ h => h) (Or.inl ⟨by rfl, fun w hSw => ?_⟩) (by assumption) ?_
                · (try dsimp only at hSw); go_simp
                try simp only [Act.put, List.getElem_toArray, List.getElem_cons_zero, List.getElem_cons_succ, List.setIfInBounds_toArray, List.set_cons_zero, List.set_cons_succ]
                refine wpAnyH_take (i := 4) (v := .int .i64 (k : Int)) rfl (by kernel_rfl) (by kernel_rfl) (by kernel_rfl) (fun _ _ _ h => h) (Or.inl ⟨by rfl, fun w hSw => ?_⟩) (by assumption) ?_
                · (try dsimp only at hSw); go_simp
                try simp only [Act.put, List.getElem_toArray, List.getElem_cons_zero, List.getElem_cons_succ, List.setIfInBounds_toArray, List.set_cons_zero, List.set_cons_succ]
                refine wpAnyH_take (i := 5) (v := .pointer (some ⟨D, o + i * 2, none⟩)) rfl (by kernel_rfl) (by kernel_rfl) (by kernel_rfl) (fun _ _ _ h => h) (Or.inl ⟨by rfl, fun w hSw => ?_⟩) (by assumption) ?_
                · (try dsimp only at hSw); go_simp
                try simp only [Act.put, List.getElem_toArray, List.getElem_cons_zero, List.getElem_cons_succ, List.setIfInBounds_toArray, List.set_cons_zero, List.set_cons_succ]
                refine wpAnyH_take (i := 6) (v := .pointer (some ⟨D, o + i * 2 + k, none⟩)) rfl (by kernel_rfl) (by kernel_rfl) (by kernel_rfl) (fun _ _ _ h => h) (Or.inl ⟨by rfl, fun w hSw => ?_⟩) (by assumption) ?_
                · (try dsimp only at hSw); go_simp
                try simp only [Act.put, List.getElem_toArray, List.getElem_cons_zero, List.getElem_cons_succ, List.setIfInBounds_toArray, List.set_cons_zero, List.set_cons_succ]
                refine wpAnyH_take (i := 7) (v := .int .i64 x) rfl (by kernel_rfl) (by kernel_rfl) (by kernel_rfl) (fun _ _ _ h => h) (Or.inl ⟨by rfl, fun w hSw => ?_⟩) (by assumption) ?_
                · (try dsimp only at hSw); go_simp
                try simp only [Act.put, List.getElem_toArray, List.getElem_cons_zero, List.getElem_cons_succ, List.setIfInBounds_toArray, List.set_cons_zero, List.set_cons_succ]
                refine wpAnyH_take (i := 8) (v := .int .i64 y0) rfl (by kernel_rfl) (by kernel_rfl) (by kernel_rfl) (fun _ _ _ h => h) (Or.inl ⟨by rfl, fun w hSw => ?_⟩) (by assumption) ?_
                · (try dsimp only at hSw); go_simp
                try simp only [Act.put, List.getElem_toArray, List.getElem_cons_zero, List.getElem_cons_succ, List.setIfInBounds_toArray, List.set_cons_zero, List.set_cons_succ]
                refine wpAnyH_take (i := 9) (v := .int .u8 y0) rfl (by kernel_rfl) (by kernel_rfl) (by kernel_rfl) (fun _ _ _ h => h) (Or.inl ⟨by rfl, fun w hSw => ?_⟩) (by assumption) ?_
                · (try dsimp only at hSw); go_simp
                try simp only [Act.put, List.getElem_toArray, List.getElem_cons_zero, List.getElem_cons_succ, List.setIfInBounds_toArray, List.set_cons_zero, List.set_cons_succ]
                refine wpAnyH_take (i := 10) (v := .pointer (some ⟨A, 1, none⟩)) rfl (by kernel_rfl) (by kernel_rfl) (by kernel_rfl) (fun _ _ _ h => h) (Or.inl ⟨by rfl, fun w hSw => ?_⟩) (by assumption) ?_
                · (try dsimp only at hSw); go_simp
                try simp only [Act.put, List.getElem_toArray, List.getElem_cons_zero, List.getElem_cons_succ, List.setIfInBounds_toArray, List.set_cons_zero, List.set_cons_succ]
                refine wpAnyH_take (i := 11) (v := .slice (some ⟨D, o, none⟩) nu cu) rfl (by kernel_rfl) (by kernel_rfl) (by kernel_rfl) (fun _ _ _ h => h) (Or.inl ⟨by rfl, fun w hSw => ?_⟩) (by assumption) ?_
                · (try dsimp only at hSw); go_simp
                try simp only [Act.put, List.getElem_toArray, List.getElem_cons_zero, List.getElem_cons_succ, List.setIfInBounds_toArray, List.set_cons_zero, List.set_cons_succ]
                refine wpAnyH_take (i := 12) (v := .int .i64 (i : Int)) rfl (by kernel_rfl) (by kernel_rfl) (by kernel_rfl) (fun _ _ _ h => h) (Or.inl ⟨by rfl, fun w hSw => ?_⟩) (by assumption) ?_
                · (try dsimp only at hSw); go_simp
                try simp only [Act.put, List.getElem_toArray, List.getElem_cons_zero, List.getElem_cons_succ, List.setIfInBounds_toArray, List.set_cons_zero, List.set_cons_succ]
                refine wpAnyH_take (i := 13) (v := .int .i64 (k : Int)) rfl (by kernel_rfl) (by kernel_rfl) (by kernel_rfl) (fun _ _ _ h => h) (Or.inl ⟨by rfl, fun w hSw => ?_⟩) (by assumption) ?_
                · (try dsimp only at hSw); go_simp
                try simp only [Act.put, List.getElem_toArray, List.getElem_cons_zero, List.getElem_cons_succ, List.setIfInBounds_toArray, List.set_cons_zero, List.set_cons_succ]
                refine wpAnyH_take (i := 14) (v := .pointer (some ⟨D, o + i * 2, none⟩)) rfl (by kernel_rfl) (by kernel_rfl) (by kernel_rfl) (fun _ _ _ h => h) (Or.inl ⟨by rfl, fun w hSw => ?_⟩) (by assumption) ?_
                · (try dsimp only at hSw); go_simp
                try simp only [Act.put, List.getElem_toArray, List.getElem_cons_zero, List.getElem_cons_succ, List.setIfInBounds_toArray, List.set_cons_zero, List.set_cons_succ]
                refine wpAnyH_take (i := 15) (v := .pointer (some ⟨D, o + i * 2 + k, none⟩)) rfl (by kernel_rfl) (by kernel_rfl) (by kernel_rfl) (fun _ _ _ h => h) (Or.inl ⟨by rfl, fun w hSw => ?_⟩) (by assumption) ?_
                · (try dsimp only at hSw); go_simp
                try simp only [Act.put, List.getElem_toArray, List.getElem_cons_zero, List.getElem_cons_succ, List.setIfInBounds_toArray, List.set_cons_zero, List.set_cons_succ]
                refine wpAnyH_take (i := 16) (v := .int .i64 x) rfl (by kernel_rfl) (by kernel_rfl) (by kernel_rfl) (fun _ _ _ h => h) (Or.inl ⟨by rfl, fun w hSw => ?_⟩) (by assumption) ?_
                · (try dsimp only at hSw); go_simp
                try simp only [Act.put, List.getElem_toArray, List.getElem_cons_zero, List.getElem_cons_succ, List.setIfInBounds_toArray, List.set_cons_zero, List.set_cons_succ]
                refine wpAnyH_take (i := 17) (v := .int .i64 y1) rfl (by kernel_rfl) (by kernel_rfl) (by kernel_rfl) (fun _ _ _ h => h) (Or.inl ⟨by rfl, fun w hSw => ?_⟩) (by assumption) ?_
                · (try dsimp only at hSw); go_simp
                try simp only [Act.put, List.getElem_toArray, List.getElem_cons_zero, List.getElem_cons_succ, List.setIfInBounds_toArray, List.set_cons_zero, List.set_cons_succ]
                refine wpAnyH_take (i := 18) (v := .int .u8 y1) rfl (by kernel_rfl) (by kernel_rfl) (by kernel_rfl) (fun _ _ _ h => h) (Or.inl ⟨by rfl, fun w hSw => ?_⟩) (by assumption) ?_
                · (try dsimp only at hSw); go_simp
                try simp only [Act.put, List.getElem_toArray, List.getElem_cons_zero, List.getElem_cons_succ, List.setIfInBounds_toArray, List.set_cons_zero, List.set_cons_succ]
                refine wpAnyH_ready (rs := [19]) (by kernel_rfl) (by simp) ?_
                refine AllReadyH.cons rfl (fun K hK => ?_) AllReadyH.nil
                go_simp
                have hby : Below wr.heap.size wr (wr.alloc (.cells #[.int .u8 y0, .int .u8 y1] 5)).drew := (Below.al (Below.refl _ _)).drew
                have HN : Own wr.heap.size [.int .u8 y0, .int .u8 y1] (wr.alloc (.cells #[.int .u8 y0, .int .u8 y1] 5)).drew := (Own.newAt rfl).drew
                have ROWy := row_later ROW.out hby
                have HBy := Below.go HB.out hby
                generalize (wr.alloc (.cells #[.int .u8 y0, .int .u8 y1] 5)).drew = y at *
                refine hK.out _ _ (SH.out _ hby) (fun hHeld => ?_)
                clear hK K
                try simp only [Act.put, List.getElem_toArray, List.getElem_cons_zero, List.getElem_cons_succ, List.setIfInBounds_toArray, List.set_cons_zero, List.set_cons_succ]
                refine wpAnyH_ready (rs := [20]) (by kernel_rfl) (by simp) ?_
                refine AllReadyH.cons rfl (fun K hK => ?_) AllReadyH.nil
                refine step_append_to rfl _ _ 28 rfl 5 b0 (.int .u8 0) 1 1 Try.underlying28 bi bz0 bz1 bz2 rfl (by decide) w1.heap.size _ s _ rfl ROWy ⟨wr.heap.size, 0, none⟩ 2 2 [.int .u8 y0, .int .u8 y1] rfl rfl HN.news (by intro v hv; simp at hv; rcases hv with rfl | rfl <;> rfl) N63.out NBY.out HBy.size ?_
                intro v' w6 hrow hgr
                obtain ⟨p', c', rfl, _⟩ := row_form hrow
                rw [XS.out] at hrow
                have h6 : Below w1.heap.size w1 w6 := HBy.grown hgr HBy.size fun q hq => row_ge ROWy q hq
                have o4 := Lib.hid h6
                have o6 := Lib.hid hrow
                refine hK.out _ _ ⟨(HA1.out.later h6).at 1 _ rfl, by have := (HC.out.later h6).at k _ (nums_at _ _ HKT.out); rw [show U (i * 2 + k) = x from ex.out] at this; exact this, (HA1.out.later h6).lt, (HC.out.later h6).lt⟩ (fun hHeld => ?_)
                clear hK K hrow hgr h6 HN ROWy HBy hby hBd
                try simp only [Act.put, List.getElem_toArray, List.getElem_cons_zero, List.getElem_cons_succ, List.setIfInBounds_toArray, List.set_cons_zero, List.set_cons_succ]
                refine wpAnyH_ready (rs := [21]) (by kernel_rfl) (by simp) ?_
                refine AllReadyH.cons rfl (fun K hK => ?_) AllReadyH.nil
                go_simp
                refine hK.out _ _ hHeld (fun hHeld => ?_)
                clear hK K
                try simp only [Act.put, List.getElem_toArray, List.getElem_cons_zero, List.getElem_cons_succ, List.setIfInBounds_toArray, List.set_cons_zero, List.set_cons_succ]
                refine wpAnyH_done (by kernel_rfl) ?_ _
                clear hHeld SH HAk ROW HB m1 d1 v0 v1 z1
                go_wp2_with (fail)
                go_roundw
                case rel => (first | exact ⟨k + 1, s + 2, _, _, HKT.out, HS2, rfl, by go_num, o6, o4⟩ | ((repeat apply Exists.intro); exact ⟨⟨k + 1, s + 2, _, _, HKT.out, HS2, rfl, by go_num, o6, o4⟩, rfl⟩))
                case measure => (have := HKT.out; simp [intOf]; omega)
              · obtain rfl : 2 = k := by omega
                have HT2 : Hid (s = 2 + nv * 6 + (i + 1) * 4) := Lib.hid (by have := HS.out; have := HT.out; omega)
                clear hkt hk
                go_wp2_with (fail)
                go_roundw
                case rel => (first | exact ⟨i + 1, s, _, _, HLT.out, HT2, rfl, by go_num, ROW, HB⟩ | ((repeat apply Exists.intro); exact ⟨⟨i + 1, s, _, _, HLT.out, HT2, rfl, by go_num, ROW, HB⟩, rfl⟩))
                case measure => (have := HLT.out; simp [intOf]; omega)
          · obtain rfl : nu = i := by omega
            clear hlt hi
            have HAk := Lib.hid (HA1.out.later HB.out)
            have oA := HAk.out
            have A1 := oA.at 1 _ rfl
            have Al := oA.lt
            clear oA
            go_wp2_with (fail)
            clear A1 Al HAk
            go_loopw [5, 9] (fun v iv wr => ∃ (i t : Nat) (p3 : Option Addr) (c3 : Nat), i ≤ nt ∧ Hid (t = 2 + nv * 6 + nu * 4 + i * 3) ∧ v = .slice p3 t c3 ∧ iv = .int .i64 i ∧ Hid (wr.ownsRow w1.heap.size 5 1 (.slice p3 t c3) t (nums .u8 EE t)) ∧ Hid (Below w1.heap.size w1 wr)) (fun _ iv _ => (nt - (intOf iv).toNat))
            case atStart => exact ⟨0, t, _, _, Nat.zero_le _, Lib.hid (by have := HT.out; omega), rfl, rfl, ROW, HB⟩
            case round =>
              clear ROW HB HT
              obtain ⟨i, t, p3, c3, hi, HT, rfl, rfl, ROW, HB⟩ := hrel
              by_cases hlt : i < nt
              · obtain ⟨D, o, eq, hD, hh⟩ := HVt.out.at hlt
                subst eq
                have HC := Lib.hid hh
                have hki : (i : Int) < (nt : Int) := by omega
                have k0 : (0 : Int) ≤ (i : Int) := by omega
                have wk : IntKind.i64.wrap ((i : Int) + 1) = (i : Int) + 1 := IntWalk.i64_in _ (by have := LX.out; omega)
                have HLT := Lib.hid hlt
                have HAk := Lib.hid (HA1.out.later HB.out)
                clear hi hlt hh hD
                have oA := HAk.out
                have A2 := oA.at 2 _ rfl
                have Al := oA.lt
                clear oA
                go_wp2_with (fail)
                clear A2 Al HAk
                go_loopw [5, 10] (fun v jv wr => ∃ (k s : Nat) (p3 : Option Addr) (c3 : Nat), k ≤ 3 ∧ Hid (s = t + k) ∧ v = .slice p3 s c3 ∧ jv = .int .i64 k ∧ Hid (wr.ownsRow w1.heap.size 5 1 (.slice p3 s c3) s (nums .u8 EE s)) ∧ Hid (Below w1.heap.size w1 wr)) (fun _ jv _ => (3 - (intOf jv).toNat))
                case atStart => exact ⟨0, t, _, _, Nat.zero_le _, Lib.hid (by omega), rfl, rfl, ROW, HB⟩
                case round =>
                  clear ROW HB
                  obtain ⟨k, s, p3, c3, hk, HS, rfl, rfl, ROW, HB⟩ := hrel
                  by_cases hkt : k < 3
                  · have hji : (k : Int) < 3 := by omega
                    have j0 : (0 : Int) ≤ (k : Int) := by omega
                    have wj : IntKind.i64.wrap ((k : Int) + 1) = (k : Int) + 1 := IntWalk.i64_in _ (by omega)
                    have gx := GT.out (i * 3 + k) (by have := HLT.out; omega)
                    have f0 := FT.out (i * 3 + k)
                    rw [show 2 + 2 * (nv * 3) + 2 * (nu * 2) + (i * 3 + k) = s by have := HS.out; have := HT.out; omega] at f0
                    have hcell : wr.cell? ⟨D, o + i * 3 + k, none⟩ = some (.int .i64 (R (i * 3 + k))) := (HC.out.later HB.out).at k _ (nums_at _ _ hkt)
                    have Dl := (HC.out.later HB.out).lt
                    generalize R (i * 3 + k) = x at hcell gx f0
                    rw [dg_0 (by have := LX.out; omega)] at f0
                    have v0 : IntKind.u8.wrap x = x := by rw [IntKind.wrap_u8']; have := LX.out; omega
                    have XS : Hid (nums .u8 EE s ++ [.int .u8 x] = nums .u8 EE (s + 1)) := Lib.hid (by
                      refine nums_append .u8 EE (fun _ => x) s 1 (fun i hi => ?_)
                      obtain rfl : i = 0 := by omega
                      rw [Nat.add_zero]; exact f0)
                    have HS2 : Hid (s + 1 = t + (k + 1)) := Lib.hid (by have := HS.out; omega)
                    have S9 : s ≤ 1000 := by have := HS.out; have := HT.out; have := LX.out; have := HLT.out; omega
                    have N63 := Lib.hid (show s + 1 ≤ maxLen by unfold maxLen; omega)
                    have NBY := Lib.hid (show (s + 1) * 1 ≤ 140737488355328 by omega)
                    have HKT := Lib.hid hkt
                    have HAk := Lib.hid (HA1.out.later HB.out)
                    have HS3 : Hid (w1.heap.size ≤ (wr.alloc (.cells #[.int .u8 x] 5)).heap.size) := Lib.hid (Below.al HB.out).size
                    clear hk hkt f0 S9 gx
                    have oA := HAk.out
                    have A2 := oA.at 2 _ rfl
                    have Al := oA.lt
                    clear oA
                    go_wp2_with (at_builtin; refine wpList_append_own _ rfl _ _ 28 rfl w1.heap.size 5 b0 (.int .u8 0) 1 1 Try.underlying28 bi bz0 bz1 bz2 rfl (by decide) _ s _ rfl (row_later ROW.out (Below.al (Below.refl _ _))) ⟨wr.heap.size, 0, none⟩ 1 1 [.int .u8 x] rfl rfl (Own.newAt (by rfl)).news (by intro v hv; simp at hv; rcases hv with rfl; rfl) N63.out NBY.out HS3.out ?_; intro v' w6 hrow hgr _; obtain ⟨p', c', rfl, _⟩ := row_form hrow; rw [XS.out] at hrow; have o4 := Lib.hid ((Below.al HB.out).grown hgr (Below.al HB.out).size fun q hq => row_ge ROW.out q hq); have o6 := Lib.hid hrow; clear hrow hgr)
                    go_roundw
                    case rel => (first | exact ⟨k + 1, s + 1, _, _, HKT.out, HS2, rfl, by go_num, o6, o4⟩ | ((repeat apply Exists.intro); exact ⟨⟨k + 1, s + 1, _, _, HKT.out, HS2, rfl, by go_num, o6, o4⟩, rfl⟩))
                    case measure => (have := HKT.out; simp [intOf]; omega)
                  · obtain rfl : 3 = k := by omega
                    have HT2 : Hid (s = 2 + nv * 6 + nu * 4 + (i + 1) * 3) := Lib.hid (by have := HS.out; have := HT.out; omega)
                    clear hkt hk
                    go_wp2_with (fail)
                    go_roundw
                    case rel => (first | exact ⟨i + 1, s, _, _, HLT.out, HT2, rfl, by go_num, ROW, HB⟩ | ((repeat apply Exists.intro); exact ⟨⟨i + 1, s, _, _, HLT.out, HT2, rfl, by go_num, ROW, HB⟩, rfl⟩))
                    case measure => (have := HLT.out; simp [intOf]; omega)
              · obtain rfl : nt = i := by omega
                have et : t = NN := by have := HT.out; have := EN.out; omega
                have RW : RowR wr (.slice p3 t c3) NN EE := by rw [← et]; exact RowR.of ROW.out
                have RWH := Lib.hid RW
                have HB5 := Lib.hid (Below.go HB1.out HB.out)
                clear hlt hi RW et
                have oA := (HA1.out.later HB.out)
                have A2 := oA.at 2 _ rfl
                have Al := oA.lt
                clear oA
                go_wp2_with (fail)
                exact bodyPost_ret (v := .tuple #[.slice p3 t c3, .int .i64 0]) (by simp [results, Try.results10, go_sem]) rfl ⟨⟨_, rfl, RWH.out⟩, HB5.out⟩
  · have hd : (z != 0) = true := by simpa using hz
    rw [show encL z (encN M.nv M.nu M.nt) = 0 from if_neg hz]
    clear GD
    go_enter Try.func10, Try.ntmps10
    go_upto_region 1 with fail
    obtain ⟨W0, hW⟩ : ∃ W0, W0 = (w.alloc (.cells #[.slice M.qv M.nv M.cv, .slice M.qu M.nu M.cu, .slice M.qt M.nt M.ct] 26)) := ⟨_, rfl⟩
    have hB0 : Below w.heap.size w W0 := hW ▸ (Below.al (Below.refl _ _))
    have HA : Hid (Own w.heap.size [.slice M.qv M.nv M.cv, .slice M.qu M.nu M.cu, .slice M.qt M.nt M.ct] W0) := Lib.hid (hW ▸ (Own.newAt (by simp)))
    rw [← hW]
    clear hW
    obtain ⟨A, eA⟩ : ∃ X, X = w.heap.size := ⟨_, rfl⟩
    rw [← eA] at HA ⊢
    have Aw : w.heap.size ≤ A := by omega
    clear eA
    have HM0 := Lib.hid (HM.out.later hB0)
    have oA := HA.out
    have A0 := oA.at 0 _ rfl
    have A1 := oA.at 1 _ rfl
    have A2 := oA.at 2 _ rfl
    have Al := oA.lt
    clear oA
    go_wp2_with (fail)
    go_at_call 12
    refine (CK.out _ HM0.out).mono ?_
    rintro e w1 ⟨rfl, hb⟩
    have HB1 := Lib.hid (Below.go hB0 hb)
    clear hb hB0 HM HM0 HA CK A0 A1 A2 Al
    go_wp2_with (fail)
    exact bodyPost_ret (v := .tuple #[.slice none 0 0, .int .i64 z]) (by simp [results, Try.results10, go_sem]) rfl ⟨⟨_, rfl, none, 0, rfl, Nat.le_refl _, by decide, .inl rfl⟩, HB1.out⟩
end Go.Proofs.Ytnopcgkhoennfaa

/- SU -/
namespace Go.Proofs.Ytnopcgkhoennfaa
set_option linter.unusedVariables false
set_option maxRecDepth 2000
set_option linter.unusedSimpArgs false
open Go.RowKit
/-- what Few leaves of a mesh -/
def fewM (M : Msh) : Msh := ⟨M.qv, min M.nv 70, M.cv, M.V, M.qu, min M.nu 70, M.cu, M.U, M.qt, min M.nt 70, M.ct, M.R⟩
theorem fewM_at {M : Msh} {w : World} (h : MeshAt M w) : MeshAt (fewM M) w := ⟨h.v.take (Nat.min_le_left _ _), h.u.take (Nat.min_le_left _ _), h.t.take (Nat.min_le_left _ _), Nat.le_trans (Nat.min_le_left _ _) h.lv, Nat.le_trans (Nat.min_le_left _ _) h.lu, Nat.le_trans (Nat.min_le_left _ _) h.lt, h.mv, h.mu, h.mt⟩
theorem FewM_any (M : Msh) (w : World) (h : MeshAt M w) : Calls Try.prog 8 #[.agg #[.slice M.qv M.nv M.cv, .slice M.qu M.nu M.cu, .slice M.qt M.nt M.ct]] w fun e w' => e = .returned (.agg #[.slice (fewM M).qv (fewM M).nv (fewM M).cv, .slice (fewM M).qu (fewM M).nu (fewM M).cu, .slice (fewM M).qt (fewM M).nt (fewM M).ct]) ∧ Below w.heap.size w w' :=
  Few_any M.qv M.qu M.qt M.nv M.cv M.nu M.cu M.nt M.ct (min M.nv 70) (min M.nu 70) (min M.nt 70) (by omega) (by omega) (by omega) h.lv h.lu h.lt h.mv h.mu h.mt w
set_option maxHeartbeats 8000000 in
theorem Encodes_law (M : Msh) (w : World) (hM : MeshAt M w) : Calls Try.prog 3 #[.agg #[.slice M.qv M.nv M.cv, .slice M.qu M.nu M.cu, .slice M.qt M.nt M.ct]] w fun e w' => e = .returned (.bool true) ∧ Below w.heap.size w w' := by
  have HM := Lib.hid hM
  clear hM
  go_enter Try.func3, Try.ntmps3
  go_upto_region 1 with fail
  obtain ⟨W0, hW⟩ : ∃ W0, W0 = (w.alloc (.cells #[.slice M.qv M.nv M.cv, .slice M.qu M.nu M.cu, .slice M.qt M.nt M.ct] 26)) := ⟨_, rfl⟩
  have hB0 : Below w.heap.size w W0 := hW ▸ (Below.al (Below.refl _ _))
  have HA : Hid (Own w.heap.size [.slice M.qv M.nv M.cv, .slice M.qu M.nu M.cu, .slice M.qt M.nt M.ct] W0) := Lib.hid (hW ▸ (Own.newAt (by simp)))
  rw [← hW]
  clear hW
  obtain ⟨A, eA⟩ : ∃ X, X = w.heap.size := ⟨_, rfl⟩
  rw [← eA] at HA ⊢
  have Aw : w.heap.size ≤ A := by omega
  clear eA
  have HM0 := Lib.hid (HM.out.later hB0)
  have oA := HA.out
  have A0 := oA.at 0 _ rfl
  have A1 := oA.at 1 _ rfl
  have A2 := oA.at 2 _ rfl
  have Al := oA.lt
  clear oA
  go_wp2_with (fail)
  go_at_call 8
  refine (FewM_any M _ HM0.out).mono ?_
  rintro e w1 ⟨rfl, hb⟩
  have HA1 := Lib.hid (HA.out.later hb); have HB1 := Lib.hid (Below.go hB0 hb)
  have HY := Lib.hid (fewM_at HM.out)
  clear hb hB0 HM HM0 HA A0 A1 A2 Al
  generalize fewM M = Y at *
  have oA := HA1.out
  have A0 := oA.at 0 _ rfl
  have Af0 := oA.ok 0 (by simp)
  have A1 := oA.at 1 _ rfl
  have Af1 := oA.ok 1 (by simp)
  have A2 := oA.at 2 _ rfl
  have Af2 := oA.ok 2 (by simp)
  have Al := oA.lt
  clear oA
  go_upto_region 2 with fail
  clear A0 A1 A2 Af0 Af1 Af2 Al
  rw [show (((w1.setCell ⟨A, 0, none⟩ (.slice Y.qv Y.nv Y.cv)).setCell ⟨A, 1, none⟩ (.slice Y.qu Y.nu Y.cu)).setCell ⟨A, 2, none⟩ (.slice Y.qt Y.nt Y.ct)) = w1.setCells A 0 [.slice Y.qv Y.nv Y.cv, .slice Y.qu Y.nu Y.cu, .slice Y.qt Y.nt Y.ct] from rfl]
  have HA : Hid (Own A [.slice Y.qv Y.nv Y.cv, .slice Y.qu Y.nu Y.cu, .slice Y.qt Y.nt Y.ct] (w1.setCells A 0 [.slice Y.qv Y.nv Y.cv, .slice Y.qu Y.nu Y.cu, .slice Y.qt Y.nt Y.ct])) := Lib.hid (Own.store HA1.out rfl)
  have HB : Hid (Below w.heap.size w (w1.setCells A 0 [.slice Y.qv Y.nv Y.cv, .slice Y.qu Y.nu Y.cu, .slice Y.qt Y.nt Y.ct])) := Lib.hid (Below.setCells HB1.out Aw _ _)
  clear HA1 HB1
  generalize w1.setCells A 0 [.slice Y.qv Y.nv Y.cv, .slice Y.qu Y.nu Y.cu, .slice Y.qt Y.nt Y.ct] = w2 at *
  have CE := Lib.hid (Encode_any Y); have CR := Lib.hid (REncode_any Y); have CC := Lib.hid (Check_any Y); have CD := Lib.hid (RCheck_any Y)
  generalize chkM Y = z at *
  obtain ⟨n, en⟩ : ∃ n, encL z (encN Y.nv Y.nu Y.nt) = n := ⟨_, rfl⟩
  rw [en] at CE CR
  generalize encF Y.nv Y.nu Y.nt Y.V Y.U Y.R = EF at *
  clear en
  have oA := HA.out
  have A0 := oA.at 0 _ rfl
  have A1 := oA.at 1 _ rfl
  have A2 := oA.at 2 _ rfl
  have Al := oA.lt
  clear oA
  go_wp2_with (fail)
  go_at_call 9
  refine (CE.out _ (HY.out.later HB.out)).mono ?_
  rintro e w3 ⟨⟨v1, rfl, q1, c1, rfl, _, _, hb1⟩, hb⟩
  have HA_ := Lib.hid (HA.out.later hb)
  have HB_ := Lib.hid (Below.go HB.out hb)
  have BY1 := Lib.hid hb1
  clear hb1
  clear hb HB HA
  have HA := HA_
  clear HA_
  have HB := HB_
  clear HB_
  clear A0 A1 A2 Al CE
  have oA := HA.out
  have A0 := oA.at 0 _ rfl
  have A1 := oA.at 1 _ rfl
  have A2 := oA.at 2 _ rfl
  have Al := oA.lt
  clear oA
  go_wp2_with (fail)
  go_at_call 10
  refine (CR.out _ (HY.out.later HB.out)).mono ?_
  rintro e w4 ⟨⟨v2, rfl, q2, c2, rfl, _, _, hb2⟩, hb⟩
  have HA_ := Lib.hid (HA.out.later hb)
  have HB_ := Lib.hid (Below.go HB.out hb)
  have BY2 := Lib.hid hb2; have BY1_ := Lib.hid (BY1.out.later hb)
  clear hb2 BY1
  clear hb HB HA
  have HA := HA_
  clear HA_
  have HB := HB_
  clear HB_
  have BY1 := BY1_
  clear BY1_ A0 A1 A2 Al CR
  go_wp2_with (fail)
  have hBd : Below w4.heap.size w4 w4.drew := (Below.refl _ _).drew
  have SH : Hid (∀ w', Below w4.heap.size w4 w' → w'.cell? ⟨A, 0, none⟩ = some (.slice Y.qv Y.nv Y.cv) ∧ w'.cell? ⟨A, 1, none⟩ = some (.slice Y.qu Y.nu Y.cu) ∧ w'.cell? ⟨A, 2, none⟩ = some (.slice Y.qt Y.nt Y.ct)) := Lib.hid fun w' hb => ⟨(HA.out.later hb).at 0 _ rfl, (HA.out.later hb).at 1 _ rfl, (HA.out.later hb).at 2 _ rfl⟩
  go_region_held3 (fun w' => w'.cell? ⟨A, 0, none⟩ = some (.slice Y.qv Y.nv Y.cv) ∧ w'.cell? ⟨A, 1, none⟩ = some (.slice Y.qu Y.nu Y.cu) ∧ w'.cell? ⟨A, 2, none⟩ = some (.slice Y.qt Y.nt Y.ct)) (first | exact SH.out _ (by assumption) | exact SH.out _ (Below.al (by assumption))) (first | (go_at_call 11; (with_reducible refine (CC.out _ (HY.out.later (Below.go HB.out hBd))).mono ?_); rintro e y1 ⟨rfl, h1⟩; have by1 : Below w4.heap.size w4 y1 := Below.go hBd h1; clear h1) | (go_at_call 12; (with_reducible refine (CD.out _ (HY.out.later (Below.go HB.out by1))).mono ?_); rintro e y2 ⟨rfl, h1⟩; have by2 : Below w4.heap.size w4 y2 := Below.go by1 h1; clear h1) | (go_at_call 13; (with_reducible refine (Equal_any _ _ _ _ _ EF _ (BY1.out.later by2) (BY2.out.later by2)).mono ?_); rintro e y3 ⟨rfl, h1⟩; have by3 : Below w4.heap.size w4 y3 := Below.go by2 h1; clear h1) | (go_at_call 14; (with_reducible refine (works_any _).mono ?_); rintro e y4 ⟨rfl, h1⟩; have by4 : Below w4.heap.size w4 y4 := Below.go by3 h1; clear h1))
  clear  hBd SH by1 by2 by3
  go_wp2_with (fail)
  go_ret
  exact ⟨rfl, Below.go HB.out by4⟩
end Go.Proofs.Ytnopcgkhoennfaa

/- SZ -/
namespace Go.Proofs.Ytnopcgkhoennfaa
set_option linter.unusedVariables false
set_option maxRecDepth 2000
set_option linter.unusedSimpArgs false
open Go.RowKit
theorem dg_leN (f : Nat → Int) : ∀ (n i : Nat), (∀ j, j < n → inB (f j)) → i < n → dg (leN f n) i = f i := by
  intro n i hf hi
  have e := leN_congr (f := dg (leN f n)) (g := dg (leN f n)) (n := n) (fun _ _ => rfl)
  induction n with
  | zero => omega
  | succ n ih =>
    have hl := leN_lt f n (fun j hj => hf j (by omega))
    have hb := hf n (by omega)
    unfold inB at hb
    by_cases hin : i < n
    · rw [← ih (fun j hj => hf j (by omega)) hin rfl, leN]
      unfold dg
      obtain ⟨d, rfl⟩ : ∃ d, n = i + 1 + d := ⟨n - (i + 1), by omega⟩
      rw [show pw (i + 1 + d) = pw i * (256 * pw d) by rw [pw_add, pw_succ]; simp only [Int.mul_comm, Int.mul_left_comm, Int.mul_assoc]]
      rw [Int.mul_assoc, Int.add_mul_ediv_left _ _ (by have := pw_pos i; omega), Int.mul_assoc]
      omega
    · obtain rfl : i = n := by omega
      rw [leN]
      unfold dg
      rw [Int.add_mul_ediv_left _ _ (by have := pw_pos i; omega), Int.ediv_eq_zero_of_lt hl.1 hl.2]
      omega

theorem valN_of {F : Nat → Int} {N t W : Nat} {z : Int} (h : ∀ i, i < W → F (t + i) = dg z i) (h0 : 0 ≤ z) (hz : z < pw W) (hT : t + W ≤ N) : valN F N t W = z := by
  unfold valN
  rw [if_pos hT, leN_congr (g := dg z) h, leN_dg, Int.emod_eq_of_lt h0 hz]
theorem sgnN_of {F : Nat → Int} {N t : Nat} {z : Int} (h : ∀ i, i < 2 → F (t + i) = dg z i) (hz : -4096 ≤ z ∧ z ≤ 4096) (hT : t + 2 ≤ N) : sgnN F N t = z := by
  unfold sgnN valN
  rw [if_pos hT, leN_congr (g := dg z) h, leN_dg]
  exact sgn_back z 2 (by decide) (fit_s hz)
theorem dg_sgn (z : Int) (W i : Nat) (h : i < W) : dg (sgn z W) i = dg z i := by
  unfold sgn
  split
  · have := dg_add (z - pw W) W i h
    rw [show pw W + (z - pw W) = z by omega] at this
    exact this.symm
  · rfl
theorem pw_1 : pw 1 = 256 := pw_vals.1
theorem pw_2 : pw 2 = 65536 := pw_vals.2.1
/-- what was encoded comes out again -/
theorem enc_dec {nv nu nt : Nat} {V U R : Nat → Int} (g : GoodM nv nu nt V U R) : (dcN (encF nv nu nt V U R) (encN nv nu nt) 0 = nv ∧ dcN (encF nv nu nt V U R) (encN nv nu nt) 1 = nt) ∧ (∀ j, j < nv * 3 → decV (encF nv nu nt V U R) (encN nv nu nt) j = V j) ∧ (∀ j, j < nu * 2 → decU (encF nv nu nt V U R) (encN nv nu nt) j = U j) ∧ (∀ j, j < nt * 3 → decR (encF nv nu nt V U R) (encN nv nu nt) j = R j) := by
  obtain ⟨hn, ht, hu, gv, gu, gt⟩ := g
  have EN : encN nv nu nt = 2 + nv * 6 + nu * 4 + nt * 3 := by unfold encN; omega
  have F0 := encF_0 nv nu nt V U R
  have FV := encF_v nv nu nt V U R; have FU := encF_u nv nu nt V U R; have FT := encF_t nv nu nt V U R
  generalize encF nv nu nt V U R = F at *
  generalize encN nv nu nt = N at *
  have v0 : valN F N 0 1 = (nv : Int) := valN_of (fun i hi => by
    obtain rfl : i = 0 := by omega
    exact F0 0 (by decide)) (by omega) (by rw [pw_1]; omega) (by omega)
  have v1 : valN F N 1 1 = (nt : Int) := valN_of (fun i hi => by
    obtain rfl : i = 0 := by omega
    exact F0 1 (by decide)) (by omega) (by rw [pw_1]; omega) (by omega)
  have d0 : dcN F N 0 = nv := by unfold dcN; rw [v0]; rfl
  have d1 : dcN F N 1 = nt := by unfold dcN; rw [v1]; rfl
  refine ⟨⟨d0, d1⟩, fun j hj => ?_, fun j hj => ?_, fun j hj => ?_⟩
  · unfold decV
    exact sgnN_of (fun i hi => FV j i hj hi) (gv j hj) (by omega)
  · unfold decU
    rw [d0]
    exact valN_of (fun i hi => by rw [← FU j i hj hi]; congr 1; omega) (gu j hj).1 (by rw [pw_2]; have := gu j hj; omega) (by omega)
  · unfold decR
    rw [d0]
    exact valN_of (fun i hi => by
      obtain rfl : i = 0 := by omega
      rw [← FT j]; congr 1; omega) (gt j hj).1 (by rw [pw_1]; have := gt j hj; omega) (by omega)
theorem enc_good {nv nu nt : Nat} {V U R : Nat → Int} (h : chkF nv nu nt V U R = 0) : decE (encF nv nu nt V U R) (encN nv nu nt) = 0 := by
  have g := chk_good h
  obtain ⟨⟨d0, d1⟩, dv, du, dr⟩ := enc_dec g
  have hu := g.hu
  have EN : encN nv nu nt = 2 + nv * 6 + nu * 4 + nt * 3 := by unfold encN; omega
  have T : decT (encF nv nu nt V U R) (encN nv nu nt) = encN nv nu nt := by
    unfold decT
    rw [d0, d1, EN]
    omega
  unfold decE
  rw [T, if_neg (Nat.lt_irrefl _), if_neg (Nat.lt_irrefl _), d0, d1]
  subst hu
  rw [chk_congr dv du dr]
  exact h
theorem enc_in {nv nu nt : Nat} {V U R : Nat → Int} (j : Nat) : inB (encF nv nu nt V U R j) := by
  have b0 : ∀ j, inB (enc1 nv nt j) := fun j => in_outF _ _ _ _ j (fun i hi => absurd hi (Nat.not_lt_zero i))
  have b1 : ∀ j, inB (enc2 nv nt V j) := fun j => in_outF _ _ _ _ j (fun i _ => b0 i)
  have b2 : ∀ j, inB (enc3 nv nu nt V U j) := fun j => in_outF _ _ _ _ j (fun i _ => b1 i)
  exact in_outF _ _ _ _ j (fun i _ => b2 i)
theorem dec_zero {F : Nat → Int} {N : Nat} (h : decE F N = 0) : N = decT F N ∧ chkF (dcN F N 0) (dcN F N 0) (dcN F N 1) (decV F N) (decU F N) (decR F N) = 0 := by
  unfold decE at h
  by_cases a : N < decT F N
  · rw [if_pos a] at h; omega
  · rw [if_neg a] at h
    by_cases b : decT F N < N
    · rw [if_pos b] at h; omega
    · rw [if_neg b] at h
      exact ⟨by omega, h⟩
theorem leN_1 (f : Nat → Int) : leN f 1 = f 0 := by unfold leN leN; rw [pw_zero]; omega
theorem dg_val {F : Nat → Int} {N t W i : Nat} (hF : ∀ j, j < N → inB (F j)) (hT : t + W ≤ N) (hi : i < W) : dg (valN F N t W) i = F (t + i) := by
  unfold valN
  rw [if_pos hT]
  exact dg_leN (fun j => F (t + j)) W i (fun j hj => hF _ (by omega)) hi
/-- bytes that a mesh comes out of are its bytes -/
theorem dec_enc {F : Nat → Int} {N : Nat} (hF : ∀ j, j < N → inB (F j)) (h : decE F N = 0) : encN (dcN F N 0) (dcN F N 0) (dcN F N 1) = N ∧ ∀ j, j < N → encF (dcN F N 0) (dcN F N 0) (dcN F N 1) (decV F N) (decU F N) (decR F N) j = F j := by
  obtain ⟨hT, hc⟩ := dec_zero h
  have v0 := (dcN_val hF 0).1; have v1 := (dcN_val hF 1).1
  have eT : decT F N = 2 + dcN F N 0 * 10 + dcN F N 1 * 3 := rfl
  rw [eT] at hT
  have EV : ∀ j, decV F N j = sgnN F N (2 + 2 * j) := fun _ => rfl
  have EU : ∀ j, decU F N j = valN F N (2 + dcN F N 0 * 6 + 2 * j) 2 := fun _ => rfl
  have ER : ∀ j, decR F N j = valN F N (2 + dcN F N 0 * 10 + j) 1 := fun _ => rfl
  clear eT h hc
  generalize dcN F N 0 = n at *
  generalize dcN F N 1 = m at *
  generalize decV F N = GV at *
  generalize decU F N = GU at *
  generalize decR F N = GR at *
  refine ⟨by unfold encN; omega, fun j hj => ?_⟩
  by_cases h0 : j < 2
  · rw [encF_0 _ _ _ _ _ _ j h0]
    rcases (show j = 0 ∨ j = 1 by omega) with rfl | rfl
    · rw [show cntF n m 0 = (n : Int) from rfl, ← v0]
      exact dg_val hF (by omega) (by decide)
    · rw [show cntF n m 1 = (m : Int) from rfl, ← v1]
      exact dg_val hF (by omega) (by decide)
  · by_cases h1 : j < 2 + n * 6
    · have e := encF_v n n m GV GU GR ((j - 2) / 2) ((j - 2) % 2) (by omega) (by omega)
      rw [show 2 + 2 * ((j - 2) / 2) + (j - 2) % 2 = j by omega] at e
      rw [e, EV]
      unfold sgnN
      rw [dg_sgn _ _ _ (by omega), dg_val hF (by omega) (by omega)]
      congr 1
      omega
    · by_cases h2 : j < 2 + n * 10
      · have e := encF_u n n m GV GU GR ((j - (2 + n * 6)) / 2) ((j - (2 + n * 6)) % 2) (by omega) (by omega)
        rw [show 2 + 2 * (n * 3) + 2 * ((j - (2 + n * 6)) / 2) + (j - (2 + n * 6)) % 2 = j by omega] at e
        rw [e, EU, dg_val hF (by omega) (by omega)]
        congr 1
        omega
      · have e := encF_t n n m GV GU GR (j - (2 + n * 10))
        rw [show 2 + 2 * (n * 3) + 2 * (n * 2) + (j - (2 + n * 10)) = j by omega] at e
        rw [e, ER, dg_val hF (by omega) (by decide)]
        congr 1
        omega
end Go.Proofs.Ytnopcgkhoennfaa

/- SY -/
namespace Go.Proofs.Ytnopcgkhoennfaa
set_option linter.unusedVariables false
set_option maxRecDepth 2000
set_option linter.unusedSimpArgs false
open Go.RowKit
attribute [local go_sem ↓ high] sliced_head
set_option maxHeartbeats 16000000 in
theorem BackM_law (M : Msh) (F : Nat → Int) (q : Option Addr) (n c : Nat) (hF : ∀ j, j < n → inB (F j)) (hnc : n ≤ c) (hcx : c ≤ 9223372036854775807) (w : World) (hM : MeshAt M w) (hq : Byt w q n F) : Calls Try.prog 6 #[.agg #[.slice M.qv M.nv M.cv, .slice M.qu M.nu M.cu, .slice M.qt M.nt M.ct], .slice q n c] w fun e w' => e = .returned (.bool true) ∧ Below w.heap.size w w' := by
  obtain ⟨N, eN⟩ : ∃ N, min n 900 = N := ⟨_, rfl⟩
  have e1 : min (n : Int) 900 = (N : Int) := by omega
  have l1 : (N : Int) ≤ (c : Int) := by omega
  have l0 : (0 : Int) ≤ (N : Int) := by omega
  have hFN : ∀ j, j < N → inB (F j) := fun j hj => hF j (by omega)
  have HM := Lib.hid hM
  have HQ := Lib.hid (byt_take_ hq (show N ≤ n by omega))
  have DB := Lib.hid (fun w hq => Decode_any F q N c hFN (by omega) w hq)
  have DZ := Lib.hid (fun h => @dec_zero F N h); have DX := Lib.hid (fun h => @dec_enc F N hFN h)
  have INF := Lib.hid hFN
  have N9 := Lib.hid (show N ≤ 900 by omega)
  have NC := Lib.hid (show N ≤ c by omega)
  clear hF hnc hcx hq eN hFN hM
  go_enter Try.func6, Try.ntmps6
  go_upto_region 1 with fail
  obtain ⟨W0, hW⟩ : ∃ W0, W0 = (w.alloc (.cells #[.slice M.qv M.nv M.cv, .slice M.qu M.nu M.cu, .slice M.qt M.nt M.ct] 26)) := ⟨_, rfl⟩
  have hB0 : Below w.heap.size w W0 := hW ▸ (Below.al (Below.refl _ _))
  have HA : Hid (Own w.heap.size [.slice M.qv M.nv M.cv, .slice M.qu M.nu M.cu, .slice M.qt M.nt M.ct] W0) := Lib.hid (hW ▸ (Own.newAt (by simp)))
  rw [← hW]
  clear hW
  obtain ⟨A, eA⟩ : ∃ X, X = w.heap.size := ⟨_, rfl⟩
  rw [← eA] at HA ⊢
  have Aw : w.heap.size ≤ A := by omega
  clear eA
  have HB := Lib.hid hB0
  clear hB0
  refine wp_region_held_drew (S := fun _ => True) (by kernel_rfl) trivial (fun _ => ?_)
  have HA_ := Lib.hid HA.out.drew; have HB_ := Lib.hid HB.out.drew
  clear HA HB
  generalize W0.drew = z0 at *
  have HA := HA_; have HB := HB_
  clear HA_ HB_
  refine wpAnyH_take (i := 2) (v := .slice q n c) rfl (by kernel_rfl) (by kernel_rfl) (by kernel_rfl) (fun _ _ _ h => h) (Or.inl ⟨by rfl, fun w _ => ?_⟩) trivial ?_
  · go_simp
  try simp only [Act.put, List.getElem_toArray, List.getElem_cons_zero, List.getElem_cons_succ, List.setIfInBounds_toArray, List.set_cons_zero, List.set_cons_succ]
  refine wpAnyH_take (i := 3) (v := .slice q n c) rfl (by kernel_rfl) (by kernel_rfl) (by kernel_rfl) (fun _ _ _ h => h) (Or.inl ⟨by rfl, fun w _ => ?_⟩) trivial ?_
  · go_simp
  try simp only [Act.put, List.getElem_toArray, List.getElem_cons_zero, List.getElem_cons_succ, List.setIfInBounds_toArray, List.set_cons_zero, List.set_cons_succ]
  refine wpAnyH_take (i := 4) (v := .int .i64 n) rfl (by kernel_rfl) (by kernel_rfl) (by kernel_rfl) (fun _ _ _ h => h) (Or.inl ⟨by rfl, fun w _ => ?_⟩) trivial ?_
  · go_simp
  try simp only [Act.put, List.getElem_toArray, List.getElem_cons_zero, List.getElem_cons_succ, List.setIfInBounds_toArray, List.set_cons_zero, List.set_cons_succ]
  refine wpAnyH_take (i := 5) (v := .int .i64 N) rfl (by kernel_rfl) (by kernel_rfl) (by kernel_rfl) (fun _ _ _ h => h) (Or.inl ⟨by rfl, fun w _ => ?_⟩) trivial ?_
  · go_simp
  try simp only [Act.put, List.getElem_toArray, List.getElem_cons_zero, List.getElem_cons_succ, List.setIfInBounds_toArray, List.set_cons_zero, List.set_cons_succ]
  refine wpAnyH_take (i := 6) (v := .slice q N c) rfl (by kernel_rfl) (by kernel_rfl) (by kernel_rfl) (fun _ _ _ h => h) (Or.inl ⟨by rfl, fun w _ => ?_⟩) trivial ?_
  · go_simp
  try simp only [Act.put, List.getElem_toArray, List.getElem_cons_zero, List.getElem_cons_succ, List.setIfInBounds_toArray, List.set_cons_zero, List.set_cons_succ]
  refine wpAnyH_ready (rs := [0]) (by kernel_rfl) (by simp) ?_
  refine AllReadyH.cons rfl (fun K_ hK => ?_) AllReadyH.nil
  have oA := HA.out
  have A0 := oA.at 0 _ rfl
  have A1 := oA.at 1 _ rfl
  have A2 := oA.at 2 _ rfl
  have Al := oA.lt
  clear oA
  go_simp
  clear A0 A1 A2 Al
  refine hK.out _ _ trivial (fun _ => ?_)
  clear hK K_
  try simp only [Act.put, List.getElem_toArray, List.getElem_cons_zero, List.getElem_cons_succ, List.setIfInBounds_toArray, List.set_cons_zero, List.set_cons_succ]
  refine wpAnyH_ready (rs := [1]) (by kernel_rfl) (by simp) ?_
  refine AllReadyH.cons rfl (fun K_ hK => ?_) AllReadyH.nil
  go_simp
  go_at_call 8
  refine (FewM_any M _ (HM.out.later HB.out)).mono ?_
  rintro e z1 ⟨rfl, hb⟩
  have HA_ := Lib.hid (HA.out.later hb); have HB_ := Lib.hid (Below.go HB.out hb)
  have HY := Lib.hid (fewM_at HM.out)
  clear hb HA HB HM
  generalize fewM M = Y at *
  have HA := HA_; have HB := HB_
  clear HA_ HB_
  refine hK.out _ _ trivial (fun _ => ?_)
  clear hK K_
  try simp only [Act.put, List.getElem_toArray, List.getElem_cons_zero, List.getElem_cons_succ, List.setIfInBounds_toArray, List.set_cons_zero, List.set_cons_succ]
  refine wpAnyH_ready (rs := [7]) (by kernel_rfl) (by simp) ?_
  refine AllReadyH.cons rfl (fun K_ hK => ?_) AllReadyH.nil
  have oA := HA.out
  have A0 := oA.at 0 _ rfl
  have Af0 := oA.ok 0 (by simp)
  have A1 := oA.at 1 _ rfl
  have Af1 := oA.ok 1 (by simp)
  have A2 := oA.at 2 _ rfl
  have Af2 := oA.ok 2 (by simp)
  have Al := oA.lt
  clear oA
  go_simp
  clear A0 A1 A2 Af0 Af1 Af2 Al
  rw [show (((z1.setCell ⟨A, 0, none⟩ (.slice Y.qv Y.nv Y.cv)).setCell ⟨A, 1, none⟩ (.slice Y.qu Y.nu Y.cu)).setCell ⟨A, 2, none⟩ (.slice Y.qt Y.nt Y.ct)) = z1.setCells A 0 [.slice Y.qv Y.nv Y.cv, .slice Y.qu Y.nu Y.cu, .slice Y.qt Y.nt Y.ct] from rfl]
  have HA_ : Hid (Own A [.slice Y.qv Y.nv Y.cv, .slice Y.qu Y.nu Y.cu, .slice Y.qt Y.nt Y.ct] (z1.setCells A 0 [.slice Y.qv Y.nv Y.cv, .slice Y.qu Y.nu Y.cu, .slice Y.qt Y.nt Y.ct])) := Lib.hid (Own.store HA.out rfl)
  have HB_ : Hid (Below w.heap.size w (z1.setCells A 0 [.slice Y.qv Y.nv Y.cv, .slice Y.qu Y.nu Y.cu, .slice Y.qt Y.nt Y.ct])) := Lib.hid (Below.setCells HB.out Aw _ _)
  clear HA HB
  generalize z1.setCells A 0 [.slice Y.qv Y.nv Y.cv, .slice Y.qu Y.nu Y.cu, .slice Y.qt Y.nt Y.ct] = z2 at *
  have HA := HA_; have HB := HB_
  clear HA_ HB_
  refine hK.out _ _ trivial (fun _ => ?_)
  clear hK K_
  try simp only [Act.put, List.getElem_toArray, List.getElem_cons_zero, List.getElem_cons_succ, List.setIfInBounds_toArray, List.set_cons_zero, List.set_cons_succ]
  refine wpAnyH_ready (rs := [8]) (by kernel_rfl) (by simp) ?_
  refine AllReadyH.cons rfl (fun K_ hK => ?_) AllReadyH.nil
  go_simp
  refine hK.out _ _ trivial (fun _ => ?_)
  clear hK K_
  try simp only [Act.put, List.getElem_toArray, List.getElem_cons_zero, List.getElem_cons_succ, List.setIfInBounds_toArray, List.set_cons_zero, List.set_cons_succ]
  refine wpAnyH_done (by kernel_rfl) ?_ _
  clear e1 l0 l1
  have CE := Lib.hid (Encode_any Y)
  obtain ⟨z, ez⟩ : ∃ z, chkM Y = z := ⟨_, rfl⟩
  rw [ez] at CE
  have oA := HA.out
  have A0 := oA.at 0 _ rfl
  have A1 := oA.at 1 _ rfl
  have A2 := oA.at 2 _ rfl
  have Al := oA.lt
  clear oA
  go_wp2_with (fail)
  go_at_call 9
  refine (CE.out _ (HY.out.later HB.out)).mono ?_
  rintro e w3 ⟨⟨v1, rfl, q1, c1, rfl, _, _, hb1⟩, hb⟩
  have HA_ := Lib.hid (HA.out.later hb)
  have HB_ := Lib.hid (Below.go HB.out hb)
  have BY1 := Lib.hid hb1
  clear hb1
  clear hb HB HA
  have HA := HA_
  clear HA_
  have HB := HB_
  clear HB_
  clear A0 A1 A2 Al CE
  by_cases hz : z = 0
  · subst hz
    have ED := Lib.hid (enc_dec (chk_good (show chkF Y.nv Y.nu Y.nt Y.V Y.U Y.R = 0 from ez)))
    have EG := enc_good (show chkF Y.nv Y.nu Y.nt Y.V Y.U Y.R = 0 from ez)
    have GY := Lib.hid (chk_good (show chkF Y.nv Y.nu Y.nt Y.V Y.U Y.R = 0 from ez))
    have BYk : Hid (Byt w3 q1 (encN Y.nv Y.nu Y.nt) (encF Y.nv Y.nu Y.nt Y.V Y.U Y.R)) := Lib.hid BY1.out
    rw [show encL 0 (encN Y.nv Y.nu Y.nt) = encN Y.nv Y.nu Y.nt from rfl]
    have NN : encN Y.nv Y.nu Y.nt ≤ 100000 := by unfold encN; have a := GY.out.hn; have b := GY.out.ht; have c := GY.out.hu; omega
    have D1 := Lib.hid (fun w hq => Decode_any (encF Y.nv Y.nu Y.nt Y.V Y.U Y.R) q1 (encN Y.nv Y.nu Y.nt) c1 (fun j _ => enc_in j) NN w hq)
    rw [EG] at D1
    have EGH := Lib.hid EG
    generalize encF Y.nv Y.nu Y.nt Y.V Y.U Y.R = EF at *
    generalize encN Y.nv Y.nu Y.nt = EN at *
    clear BY1 ez EG NN
    go_wp2_with (fail)
    go_at_call 15
    refine (D1.out _ BYk.out).mono ?_
    rintro e w4 ⟨⟨X1, rfl, hX, hdx⟩, hb⟩
    have HA_ := Lib.hid (HA.out.later hb)
    have HB_ := Lib.hid (Below.go HB.out hb)
    have HX1 := Lib.hid hX; have DM1 := Lib.hid hdx
    clear hX hdx
    clear hb HB HA
    have HA := HA_
    clear HA_
    have HB := HB_
    clear HB_
    clear D1 BYk
    go_upto_region 5 with fail
    obtain ⟨w5, hW⟩ : ∃ w5, w5 = (w4.alloc (.cells #[.slice X1.qv X1.nv X1.cv, .slice X1.qu X1.nu X1.cu, .slice X1.qt X1.nt X1.ct] 26)) := ⟨_, rfl⟩
    have hBx : Below w4.heap.size w4 w5 := hW ▸ (Below.al (Below.refl _ _))
    have HG : Hid (Own w4.heap.size ([.slice X1.qv X1.nv X1.cv, .slice X1.qu X1.nu X1.cu, .slice X1.qt X1.nt X1.ct]) w5) := Lib.hid (hW ▸ (show Own w4.heap.size ([.slice X1.qv X1.nv X1.cv, .slice X1.qu X1.nu X1.cu, .slice X1.qt X1.nt X1.ct]) (w4.alloc (.cells #[.slice X1.qv X1.nv X1.cv, .slice X1.qu X1.nu X1.cu, .slice X1.qt X1.nt X1.ct] 26)) from Own.newAt (by simp)))
    rw [← hW]
    clear hW
    obtain ⟨G, eG⟩ : ∃ X, X = w4.heap.size := ⟨_, rfl⟩
    rw [← eG] at HG ⊢
    have Gw : w4.heap.size ≤ G := by omega
    clear eG
    have HA_ := Lib.hid (HA.out.later hBx)
    have HX1_ := Lib.hid (HX1.out.later hBx)
    have HB_ := Lib.hid (Below.go HB.out hBx)
    clear hBx HB Gw HA HX1
    have HA := HA_
    clear HA_
    have HX1 := HX1_
    clear HX1_
    have HB := HB_
    clear HB_
    have SY := Lib.hid (show Calls Try.prog 17 #[.agg #[.slice Y.qv Y.nv Y.cv, .slice Y.qu Y.nu Y.cu, .slice Y.qt Y.nt Y.ct], .agg #[.slice X1.qv X1.nv X1.cv, .slice X1.qu X1.nu X1.cu, .slice X1.qt X1.nt X1.ct]] w5 fun e w' => e = .returned (.bool true) ∧ Below w5.heap.size w5 w' by
      obtain ⟨g1, g2, g3, g4, g5, g6⟩ := DM1.out.yes EGH.out
      obtain ⟨⟨d0, d1⟩, dv, du, dr⟩ := ED.out
      have hu := GY.out.hu; have a := GY.out.hn; have b := GY.out.ht
      exact Same_yes Y X1 _ (HY.out.later HB.out) HX1.out (by rw [g1, d0]) (by rw [g2, d0]; exact hu) (by rw [g3, d1]) (fun j hj => by rw [g4, dv j hj]) (fun j hj => by rw [g5, du j hj]) (fun j hj => by rw [g6, dr j hj]) (by omega))
    clear ED GY EGH DM1 HX1
    have oA := HA.out
    have A0 := oA.at 0 _ rfl
    have A1 := oA.at 1 _ rfl
    have A2 := oA.at 2 _ rfl
    have Al := oA.lt
    clear oA
    have oG := HG.out
    have G0 := oG.at 0 _ rfl
    have G1 := oG.at 1 _ rfl
    have G2 := oG.at 2 _ rfl
    have Gl := oG.lt
    clear oG
    go_wp2_with (fail)
    go_at_call 17
    refine SY.out.mono ?_
    rintro e w6 ⟨rfl, hb⟩
    have HB_ := Lib.hid (Below.go HB.out hb)
    clear hb HB SY A0 A1 A2 Al G0 G1 G2 Gl HA HG HY
    have HB := HB_
    clear HB_
    have HQk := Lib.hid (HQ.out.later HB.out)
    go_wp2_with (fail)
    go_at_call 15
    refine (DB.out _ HQk.out).mono ?_
    rintro e u1 ⟨⟨X, rfl, hX, hdx⟩, hb⟩
    have HQk_ := Lib.hid (HQk.out.later hb)
    have HB_ := Lib.hid (Below.go HB.out hb)
    have HX := Lib.hid hX; have DX1 := Lib.hid hdx
    clear hX hdx
    clear hb HB HQk
    have HQk := HQk_
    clear HQk_
    have HB := HB_
    clear HB_
    clear DB
    go_upto_region 8 with fail
    obtain ⟨u2, hW⟩ : ∃ u2, u2 = (u1.alloc (.cells #[.slice X.qv X.nv X.cv, .slice X.qu X.nu X.cu, .slice X.qt X.nt X.ct] 26)) := ⟨_, rfl⟩
    have hBx : Below u1.heap.size u1 u2 := hW ▸ (Below.al (Below.refl _ _))
    have HE : Hid (Own u1.heap.size ([.slice X.qv X.nv X.cv, .slice X.qu X.nu X.cu, .slice X.qt X.nt X.ct]) u2) := Lib.hid (hW ▸ (show Own u1.heap.size ([.slice X.qv X.nv X.cv, .slice X.qu X.nu X.cu, .slice X.qt X.nt X.ct]) (u1.alloc (.cells #[.slice X.qv X.nv X.cv, .slice X.qu X.nu X.cu, .slice X.qt X.nt X.ct] 26)) from Own.newAt (by simp)))
    rw [← hW]
    clear hW
    obtain ⟨E, eE⟩ : ∃ X, X = u1.heap.size := ⟨_, rfl⟩
    rw [← eE] at HE ⊢
    have Ew : u1.heap.size ≤ E := by omega
    clear eE
    have HX_ := Lib.hid (HX.out.later hBx)
    have HQk_ := Lib.hid (HQk.out.later hBx)
    have HB_ := Lib.hid (Below.go HB.out hBx)
    clear hBx HB Ew HX HQk
    have HX := HX_
    clear HX_
    have HQk := HQk_
    clear HQk_
    have HB := HB_
    clear HB_
    obtain ⟨e9, ee⟩ : ∃ e, decE F N = e := ⟨_, rfl⟩
    by_cases he : e9 = 0
    · subst he
      obtain ⟨g1, g2, g3, g4, g5, g6⟩ := DX1.out.yes ee
      have hc := (DZ.out ee).2
      have hx := DX.out ee
      have cx : chkM X = 0 := by unfold chkM; rw [g1, g2, g3, g4, g5, g6]; exact hc
      have CX : Hid (∀ w, MeshAt X w → Calls Try.prog 9 #[.agg #[.slice X.qv X.nv X.cv, .slice X.qu X.nu X.cu, .slice X.qt X.nt X.ct]] w fun e w' => (∃ v, e = .returned (.tuple #[v, .int .i64 0]) ∧ RowR w' v N F) ∧ Below w.heap.size w w') := Lib.hid (fun w h => (Encode_any X w h).mono (by
        rintro e w' ⟨⟨v, he, hr⟩, hb⟩
        rw [cx] at he hr
        rw [g1, g2, g3, g4, g5, g6, show encL 0 (encN (dcN F N 0) (dcN F N 0) (dcN F N 1)) = N from hx.1] at hr
        obtain ⟨q2, c2, hv, a, b, hby⟩ := hr
        exact ⟨⟨v, he, q2, c2, hv, a, b, byt_eq hby hx.2⟩, hb⟩))
      rw [ee]
      clear DX1 DZ DX g1 g2 g3 g4 g5 g6 hc hx cx ee
      have oE := HE.out
      have E0 := oE.at 0 _ rfl
      have E1 := oE.at 1 _ rfl
      have E2 := oE.at 2 _ rfl
      have El := oE.lt
      clear oE
      go_wp2_with (fail)
      go_at_call 9
      refine (CX.out _ HX.out).mono ?_
      rintro e u3 ⟨⟨v2, rfl, q2, c2, rfl, _, _, hb2⟩, hb⟩
      have HQk_ := Lib.hid (HQk.out.later hb)
      have HB_ := Lib.hid (Below.go HB.out hb)
      have BY2 := Lib.hid hb2
      clear hb2
      clear hb HB HQk
      have HQk := HQk_
      clear HQk_
      have HB := HB_
      clear HB_
      clear E0 E1 E2 El CX HX HE
      go_wp2_with (fail)
      go_at_call 13
      refine (Equal_any _ _ _ _ _ F _ HQk.out BY2.out).mono ?_
      rintro e u4 ⟨rfl, hb⟩
      have HB_ := Lib.hid (Below.go HB.out hb)
      clear hb HB 
      have HB := HB_
      clear HB_
      clear HQk BY2
      go_wp2_with (fail)
      go_at_call 14
      refine (works_any _).mono ?_
      rintro e w9 ⟨rfl, hb⟩
      have HB9 := Below.go HB.out hb
      clear hb HB
      go_wp2_with (fail)
      go_ret
      exact ⟨rfl, HB9⟩
    · have hd : (e9 != 0) = true := by simpa using he
      obtain ⟨g1, g2, g3⟩ := DX1.out.no (by rw [ee]; exact he)
      have HEz : Hid (Own E [.slice X.qv 0 X.cv, .slice X.qu 0 X.cu, .slice X.qt 0 X.ct] u2) := Lib.hid (by have h := HE.out; rw [g1, g2, g3] at h; exact h)
      rw [ee, g1, g2, g3]
      clear DX1 DZ DX g1 g2 g3 HX HE HQk ee he
      have oE := HEz.out
      have E0 := oE.at 0 _ rfl
      have E1 := oE.at 1 _ rfl
      have E2 := oE.at 2 _ rfl
      have El := oE.lt
      clear oE
      go_wp2_with (fail)
      clear E0 E1 E2 El
      go_at_call 14
      refine (works_any _).mono ?_
      rintro e w9 ⟨rfl, hb⟩
      have HB9 := Below.go HB.out hb
      clear hb HB
      go_wp2_with (fail)
      go_ret
      exact ⟨rfl, HB9⟩
  · have hd : (z == 0) = false := by simpa using hz
    clear ez hz BY1 HY HA
    have HQk := Lib.hid (HQ.out.later HB.out)
    go_wp2_with (fail)
    go_at_call 15
    refine (DB.out _ HQk.out).mono ?_
    rintro e u1 ⟨⟨X, rfl, hX, hdx⟩, hb⟩
    have HQk_ := Lib.hid (HQk.out.later hb)
    have HB_ := Lib.hid (Below.go HB.out hb)
    have HX := Lib.hid hX; have DX1 := Lib.hid hdx
    clear hX hdx
    clear hb HB HQk
    have HQk := HQk_
    clear HQk_
    have HB := HB_
    clear HB_
    clear DB
    go_upto_region 8 with fail
    obtain ⟨u2, hW⟩ : ∃ u2, u2 = (u1.alloc (.cells #[.slice X.qv X.nv X.cv, .slice X.qu X.nu X.cu, .slice X.qt X.nt X.ct] 26)) := ⟨_, rfl⟩
    have hBx : Below u1.heap.size u1 u2 := hW ▸ (Below.al (Below.refl _ _))
    have HE : Hid (Own u1.heap.size ([.slice X.qv X.nv X.cv, .slice X.qu X.nu X.cu, .slice X.qt X.nt X.ct]) u2) := Lib.hid (hW ▸ (show Own u1.heap.size ([.slice X.qv X.nv X.cv, .slice X.qu X.nu X.cu, .slice X.qt X.nt X.ct]) (u1.alloc (.cells #[.slice X.qv X.nv X.cv, .slice X.qu X.nu X.cu, .slice X.qt X.nt X.ct] 26)) from Own.newAt (by simp)))
    rw [← hW]
    clear hW
    obtain ⟨E, eE⟩ : ∃ X, X = u1.heap.size := ⟨_, rfl⟩
    rw [← eE] at HE ⊢
    have Ew : u1.heap.size ≤ E := by omega
    clear eE
    have HX_ := Lib.hid (HX.out.later hBx)
    have HQk_ := Lib.hid (HQk.out.later hBx)
    have HB_ := Lib.hid (Below.go HB.out hBx)
    clear hBx HB Ew HX HQk
    have HX := HX_
    clear HX_
    have HQk := HQk_
    clear HQk_
    have HB := HB_
    clear HB_
    obtain ⟨e9, ee⟩ : ∃ e, decE F N = e := ⟨_, rfl⟩
    by_cases he : e9 = 0
    · subst he
      obtain ⟨g1, g2, g3, g4, g5, g6⟩ := DX1.out.yes ee
      have hc := (DZ.out ee).2
      have hx := DX.out ee
      have cx : chkM X = 0 := by unfold chkM; rw [g1, g2, g3, g4, g5, g6]; exact hc
      have CX : Hid (∀ w, MeshAt X w → Calls Try.prog 9 #[.agg #[.slice X.qv X.nv X.cv, .slice X.qu X.nu X.cu, .slice X.qt X.nt X.ct]] w fun e w' => (∃ v, e = .returned (.tuple #[v, .int .i64 0]) ∧ RowR w' v N F) ∧ Below w.heap.size w w') := Lib.hid (fun w h => (Encode_any X w h).mono (by
        rintro e w' ⟨⟨v, he, hr⟩, hb⟩
        rw [cx] at he hr
        rw [g1, g2, g3, g4, g5, g6, show encL 0 (encN (dcN F N 0) (dcN F N 0) (dcN F N 1)) = N from hx.1] at hr
        obtain ⟨q2, c2, hv, a, b, hby⟩ := hr
        exact ⟨⟨v, he, q2, c2, hv, a, b, byt_eq hby hx.2⟩, hb⟩))
      rw [ee]
      clear DX1 DZ DX g1 g2 g3 g4 g5 g6 hc hx cx ee
      have oE := HE.out
      have E0 := oE.at 0 _ rfl
      have E1 := oE.at 1 _ rfl
      have E2 := oE.at 2 _ rfl
      have El := oE.lt
      clear oE
      go_wp2_with (fail)
      go_at_call 9
      refine (CX.out _ HX.out).mono ?_
      rintro e u3 ⟨⟨v2, rfl, q2, c2, rfl, _, _, hb2⟩, hb⟩
      have HQk_ := Lib.hid (HQk.out.later hb)
      have HB_ := Lib.hid (Below.go HB.out hb)
      have BY2 := Lib.hid hb2
      clear hb2
      clear hb HB HQk
      have HQk := HQk_
      clear HQk_
      have HB := HB_
      clear HB_
      clear E0 E1 E2 El CX HX HE
      go_wp2_with (fail)
      go_at_call 13
      refine (Equal_any _ _ _ _ _ F _ HQk.out BY2.out).mono ?_
      rintro e u4 ⟨rfl, hb⟩
      have HB_ := Lib.hid (Below.go HB.out hb)
      clear hb HB 
      have HB := HB_
      clear HB_
      clear HQk BY2
      go_wp2_with (fail)
      go_at_call 14
      refine (works_any _).mono ?_
      rintro e w9 ⟨rfl, hb⟩
      have HB9 := Below.go HB.out hb
      clear hb HB
      go_wp2_with (fail)
      go_ret
      exact ⟨rfl, HB9⟩
    · have hd : (e9 != 0) = true := by simpa using he
      obtain ⟨g1, g2, g3⟩ := DX1.out.no (by rw [ee]; exact he)
      have HEz : Hid (Own E [.slice X.qv 0 X.cv, .slice X.qu 0 X.cu, .slice X.qt 0 X.ct] u2) := Lib.hid (by have h := HE.out; rw [g1, g2, g3] at h; exact h)
      rw [ee, g1, g2, g3]
      clear DX1 DZ DX g1 g2 g3 HX HE HQk ee he
      have oE := HEz.out
      have E0 := oE.at 0 _ rfl
      have E1 := oE.at 1 _ rfl
      have E2 := oE.at 2 _ rfl
      have El := oE.lt
      clear oE
      go_wp2_with (fail)
      clear E0 E1 E2 El
      go_at_call 14
      refine (works_any _).mono ?_
      rintro e w9 ⟨rfl, hb⟩
      have HB9 := Below.go HB.out hb
      clear hb HB
      go_wp2_with (fail)
      go_ret
      exact ⟨rfl, HB9⟩
end Go.Proofs.Ytnopcgkhoennfaa
