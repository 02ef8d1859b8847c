/- mesh: the document's Encode. -/
import Derived.Test.YtnopcgkhoennfaaSF
import Derived.Test.YtnopcgkhoennfaaSI
import Derived.Lib.Hide
import Derived.LoopN
import Derived.LoopTactic
import Derived.Deep.Onto
import Derived.Deep.RegionHeld3
import Derived.Deep.QuietTactic
import Derived.BigQuiet
import Derived.Great.BuildSlice
import Derived.StillTailTactics
namespace Go.Proofs.Ytnopcgkhoennfaa
set_option linter.unusedVariables false
set_option maxRecDepth 2000
set_option linter.unusedSimpArgs false
open Go.RowKit
def vec3 (x y z : Int) (k : Nat) : Int := [x, y, z].getD k 0
set_option maxHeartbeats 4000000 in
theorem Point_any (q : Option Addr) (m c N : Nat) (f : Nat → Int) (x y z : Int) (eN : m + 2 * 3 = N) (hx : -4096 ≤ x ∧ x ≤ 4096) (hy : -4096 ≤ y ∧ y ≤ 4096) (hz : -4096 ≤ z ∧ z ≤ 4096) (hmc : m ≤ c) (hc : c ≤ 9223372036854775807) (hm : m ≤ 100000) (w : World) (hq : Byt w q m f) :
    Calls Try.prog 22 #[.slice q m c, .agg #[.int .i64 x, .int .i64 y, .int .i64 z]] w fun e w' => (∃ v, e = .returned v ∧ w'.ownsRow w.heap.size 5 1 v N (nums .u8 (outF f m 2 (vec3 x y z)) N)) ∧ Below w.heap.size w w' := by
  have C := Lib.hid (fun p w hq hp => RSigned_ok q p m c 3 3 N f (vec3 x y z) eN (fun k hk => by
    match k, hk with
    | 0, _ => exact hx
    | 1, _ => exact hy
    | 2, _ => exact hz) hmc hc (by decide) (by decide) hm (by decide) w hq hp)
  have HQ := Lib.hid hq
  have CL : Hid ([Value.int .i64 x, .int .i64 y, .int .i64 z] = nums .i64 (vec3 x y z) 3) := Lib.hid rfl
  clear hq hx hy hz hmc hc hm eN
  generalize vec3 x y z = g at *
  go_enter Try.func22, Try.ntmps22
  go_wp2_with (fail)
  go_at_call 35
  have hA := Below.al (o := .cells #[.int .i64 x, .int .i64 y, .int .i64 z] 3) (Below.al (o := .cells #[.int .i64 x, .int .i64 y, .int .i64 z] 46) (Below.refl w.heap.size w))
  refine (C.out _ _ (HQ.out.later hA) (nm_newAt (by simp) CL.out)).mono ?_
  rintro e w1 ⟨⟨v, rfl, hr⟩, hb⟩
  have HR := Lib.hid (row_base hr hA.size); have HB := Lib.hid (Below.go hA hb)
  clear hr hb hA C HQ CL
  go_wp2_with (fail)
  go_ret
  exact ⟨⟨v, rfl, HR.out⟩, HB.out⟩
theorem encF_0 (nv nu nt : Nat) (V U R : Nat → Int) (j : Nat) (h : j < 2) : encF nv nu nt V U R j = dg (cntF nv nt j) 0 := by
  have e := outF_dg (fun _ => 0) 0 1 (cntF nv nt) j 0 (by decide)
  rw [Nat.zero_add, Nat.one_mul, Nat.add_zero] at e
  unfold encF enc3 enc2 enc1
  rw [outF_head _ _ _ _ (by omega), outF_head _ _ _ _ (by omega), outF_head _ _ _ _ (by omega), e]
theorem encF_v (nv nu nt : Nat) (V U R : Nat → Int) (k i : Nat) (h : k < nv * 3) (hi : i < 2) : encF nv nu nt V U R (2 + 2 * k + i) = dg (V k) i := by
  unfold encF enc3
  rw [outF_head _ _ _ _ (by omega), outF_head _ _ _ _ (by omega)]
  exact outF_dg _ _ _ _ k i hi
theorem encF_u (nv nu nt : Nat) (V U R : Nat → Int) (k i : Nat) (h : k < nu * 2) (hi : i < 2) : encF nv nu nt V U R (2 + 2 * (nv * 3) + 2 * k + i) = dg (U k) i := by
  unfold encF
  rw [outF_head _ _ _ _ (by omega)]
  exact outF_dg _ _ _ _ k i hi
theorem encF_t (nv nu nt : Nat) (V U R : Nat → Int) (k : Nat) : encF nv nu nt V U R (2 + 2 * (nv * 3) + 2 * (nu * 2) + k) = dg (R k) 0 := by
  have := outF_dg (enc3 nv nu nt V U) (2 + 2 * (nv * 3) + 2 * (nu * 2)) 1 R k 0 (by decide)
  rw [Nat.one_mul, Nat.add_zero] at this
  exact this
theorem dg_0 {x : Int} (h : 0 ≤ x ∧ x ≤ 255) : dg x 0 = x := by unfold dg; rw [pw_zero]; omega
theorem dg_1 (x : Int) : dg x 1 = x / 256 % 256 := by unfold dg; rw [pw_vals.1]
theorem dg_00 (x : Int) : dg x 0 = x % 256 := by unfold dg; rw [pw_zero]; omega
set_option maxHeartbeats 16000000 in
theorem REncode_any (M : Msh) (w : World) (hM : MeshAt M w) : Calls Try.prog 10 #[(.agg #[.slice M.qv M.nv M.cv, .slice M.qu M.nu M.cu, .slice M.qt M.nt M.ct])] w fun e w' => (∃ v, e = .returned (.tuple #[v, .int .i64 (chkM M)]) ∧ RowR w' v (encL (chkM M) (encN M.nv M.nu M.nt)) (encF M.nv M.nu M.nt M.V M.U M.R)) ∧ Below w.heap.size w w' := by
  have HM := Lib.hid hM
  have CK := Lib.hid (RCheck_any M)
  have GD := Lib.hid (@chk_good M.nv M.nu M.nt M.V M.U M.R)
  have HZ : Hid (chkM M = chkF M.nv M.nu M.nt M.V M.U M.R) := Lib.hid rfl
  obtain ⟨z, ez⟩ : ∃ z, chkM M = z := ⟨_, rfl⟩
  rw [HZ.out] at ez
  rw [ez] at GD HZ
  rw [HZ.out] at CK ⊢
  clear ez HZ hM
  by_cases hz : z = 0
  · subst hz
    have GO := GD.out rfl
    clear GD
    obtain ⟨qv, nv, cv, V, qu, nu, cu, U, qt, nt, ct, R⟩ := M
    dsimp only at *
    obtain ⟨nn, tt, un, gv, gu, gt⟩ := GO
    rw [show encL 0 (encN nv nu nt) = encN nv nu nt from rfl]
    have F0 := Lib.hid (show encF nv nu nt V U R 0 = (nv : Int) by rw [encF_0 _ _ _ _ _ _ 0 (by decide)]; show dg (nv : Int) 0 = _; exact dg_0 (by omega))
    have F1 := Lib.hid (show encF nv nu nt V U R 1 = (nt : Int) by rw [encF_0 _ _ _ _ _ _ 1 (by decide)]; show dg (nt : Int) 0 = _; exact dg_0 (by omega))
    have FV := Lib.hid (encF_v nv nu nt V U R); have FU := Lib.hid (encF_u nv nu nt V U R); have FT := Lib.hid (encF_t nv nu nt V U R)
    have EN : Hid (encN nv nu nt = 2 + nv * 6 + nu * 4 + nt * 3) := Lib.hid (by unfold encN; omega)
    have HV := Lib.hid (And.intro HM.out.v (And.intro HM.out.u HM.out.t))
    dsimp only at HV
    have LX : Hid ((nv ≤ 64 ∧ nu ≤ 64 ∧ nt ≤ 64) ∧ 1 ≤ nv ∧ 1 ≤ nt ∧ nu = nv) := Lib.hid (by omega)
    have GV := Lib.hid gv; have GU := Lib.hid gu; have GT := Lib.hid gt
    have r1 : IntKind.u8.wrap (nv : Int) = (nv : Int) := by rw [IntKind.wrap_u8']; omega
    have r2 : IntKind.u8.wrap (nt : Int) = (nt : Int) := by rw [IntKind.wrap_u8']; omega
    generalize encF nv nu nt V U R = EE at *
    generalize encN nv nu nt = NN at *
    clear gv gu gt nn tt un
    have CL : Hid ([Value.int .u8 (nv : Int), .int .u8 (nt : Int)] = nums .u8 EE 2) := Lib.hid (by rw [← F0.out, ← F1.out]; rfl)
    clear F0 F1
    obtain ⟨b0, bi, bz0, bz1, bz2⟩ := infoB_parts
    go_enter Try.func10, Try.ntmps10
    go_upto_region 1 with fail
    obtain ⟨W0, hW⟩ : ∃ W0, W0 = (w.alloc (.cells #[.slice qv nv cv, .slice qu nu cu, .slice qt nt ct] 26)) := ⟨_, rfl⟩
    have hB0 : Below w.heap.size w W0 := hW ▸ (Below.al (Below.refl _ _))
    have HA : Hid (Own w.heap.size [.slice qv nv cv, .slice qu nu cu, .slice qt nt ct] W0) := Lib.hid (hW ▸ (Own.newAt (by simp)))
    rw [← hW]
    clear hW
    obtain ⟨A, eA⟩ : ∃ X, X = w.heap.size := ⟨_, rfl⟩
    rw [← eA] at HA ⊢
    have Aw : w.heap.size ≤ A := by omega
    clear eA
    have HM0 := Lib.hid (HM.out.later hB0)
    have oA := HA.out
    have A0 := oA.at 0 _ rfl
    have A1 := oA.at 1 _ rfl
    have A2 := oA.at 2 _ rfl
    have Al := oA.lt
    clear oA
    go_wp2_with (fail)
    go_at_call 12
    refine (CK.out _ HM0.out).mono ?_
    rintro e w1 ⟨rfl, hb⟩
    have HA1 := Lib.hid (HA.out.later hb)
    have HB1 := Lib.hid (Below.go hB0 hb)
    have HVv := Lib.hid (HV.out.1.later HB1.out); have HVu := Lib.hid (HV.out.2.1.later HB1.out); have HVt := Lib.hid (HV.out.2.2.later HB1.out)
    clear hb hB0 HM HM0 HA CK A0 A1 A2 Al HV
    have oA := HA1.out
    have A0 := oA.at 0 _ rfl
    have A2 := oA.at 2 _ rfl
    have Al := oA.lt
    clear oA
    go_upto_region 5 with fail
    clear A0 A2 Al
    have ROW0 : Hid ((w1.alloc (.cells #[.int .u8 (nv : Int), .int .u8 (nt : Int)] 5)).ownsRow w1.heap.size 5 1 (.slice (some ⟨w1.heap.size, 0, none⟩) 2 2) 2 (nums .u8 EE 2)) := Lib.hid (by rw [← CL.out]; exact World.ownsRow_lit w1 #[.int .u8 (nv : Int), .int .u8 (nt : Int)] 2 (Nat.le_refl _) (by decide) rfl)
    have hb := Below.al (o := .cells #[.int .u8 (nv : Int), .int .u8 (nt : Int)] 5) (Below.refl w1.heap.size w1)
    have BB := Lib.hid hb
    generalize (w1.alloc (.cells #[.int .u8 (nv : Int), .int .u8 (nt : Int)] 5)) = w2 at *
    obtain ⟨S0, es⟩ : ∃ S, S = w1.heap.size := ⟨_, rfl⟩
    rw [← es] at ROW0 ⊢
    clear hb r1 r2 CL
    rw [es] at ROW0
    have ROW : Hid (w2.ownsRow w1.heap.size 5 1 (.slice (some ⟨S0, 0, none⟩) 2 2) 2 (nums .u8 EE 2)) := Lib.hid (by rw [es]; exact ROW0.out)
    clear ROW0 es
    go_wp2_with (fail)
    go_loopw [5, 6] (fun v iv wr => ∃ (k t : Nat) (p3 : Option Addr) (c3 : Nat), k ≤ nv ∧ Hid (t = 2 + k * 6) ∧ v = .slice p3 t c3 ∧ iv = .int .i64 k ∧ Hid (wr.ownsRow w1.heap.size 5 1 (.slice p3 t c3) t (nums .u8 EE t)) ∧ Hid (Below w1.heap.size w1 wr)) (fun _ iv _ => (nv - (intOf iv).toNat))
    case atStart => exact ⟨0, 2, _, _, Nat.zero_le _, Lib.hid rfl, rfl, rfl, ROW, BB⟩
    case round =>
      clear ROW BB
      obtain ⟨k, t, p3, c3, hk, HT, rfl, rfl, ROW, HB⟩ := hrel
      by_cases hlt : k < nv
      · obtain ⟨D, o, rfl, hD, c0, c1, c2⟩ := (HVv.out.later HB.out).at3 hlt
        have hki : (k : Int) < (nv : Int) := by omega
        have k0 : (0 : Int) ≤ (k : Int) := by omega
        have wk : IntKind.i64.wrap ((k : Int) + 1) = (k : Int) + 1 := IntWalk.i64_in _ (by have := LX.out; omega)
        have HLT := Lib.hid hlt
        have HAk := Lib.hid (HA1.out.later HB.out)
        have PT := Lib.hid (Point_any p3 t c3 (t + 6) EE (V (k * 3)) (V (k * 3 + 1)) (V (k * 3 + 2)) rfl (GV.out _ (by omega)) (GV.out _ (by omega)) (GV.out _ (by omega)) (row_cap_ ROW.out).1 (row_cap_ ROW.out).2 (by have := HT.out; have := LX.out; omega) wr (byt_row ROW.out).2)
        have XS : Hid (nums .u8 (outF EE t 2 (vec3 (V (k * 3)) (V (k * 3 + 1)) (V (k * 3 + 2)))) (t + 6) = nums .u8 EE (t + 6)) := Lib.hid (nums_congr .u8 (fun j hj => by
          by_cases h : j < t
          · exact outF_head _ _ _ _ h
          · obtain ⟨a, ea⟩ : ∃ a, a = (j - t) / 2 := ⟨_, rfl⟩
            obtain ⟨i, ei⟩ : ∃ i, i = (j - t) % 2 := ⟨_, rfl⟩
            have hi : i < 2 := by omega
            have ha : a < 3 := by omega
            have h1 := outF_dg EE t 2 (vec3 (V (k * 3)) (V (k * 3 + 1)) (V (k * 3 + 2))) a i hi
            have h2 := FV.out (k * 3 + a) i (by omega) hi
            rw [show t + 2 * a + i = j by omega] at h1
            rw [show 2 + 2 * (k * 3 + a) + i = j by have := HT.out; omega] at h2
            rw [h1, h2]
            match a, ha with
            | 0, _ => rfl
            | 1, _ => rfl
            | 2, _ => rfl))
        have HT2 : Hid (t + 6 = 2 + (k + 1) * 6) := Lib.hid (by have := HT.out; omega)
        clear hk hlt
        have oA := HAk.out
        have A0 := oA.at 0 _ rfl
        have Al := oA.lt
        clear oA
        go_wp2_with (fail)
        go_at_call 22
        refine PT.out.mono ?_
        rintro e w6 ⟨⟨v, rfl, hr⟩, hb⟩
        obtain ⟨p', c', rfl, _⟩ := row_form hr
        rw [XS.out] at hr
        have o6 := Lib.hid (row_base hr HB.out.size); have o4 := Lib.hid (Below.go HB.out hb)
        clear hr hb A0 Al c0 c1 c2 hD PT XS HAk ROW HB
        go_wp2_with (fail)
        go_roundw
        case rel => (first | exact ⟨k + 1, t + 6, _, _, HLT.out, HT2, rfl, by go_num, o6, o4⟩ | ((repeat apply Exists.intro); exact ⟨⟨k + 1, t + 6, _, _, HLT.out, HT2, rfl, by go_num, o6, o4⟩, rfl⟩))
        case measure => (have := HLT.out; simp [intOf]; omega)
      · obtain rfl : nv = k := by omega
        clear hlt hk
        have HAk := Lib.hid (HA1.out.later HB.out)
        have oA := HAk.out
        have A0 := oA.at 0 _ rfl
        have Al := oA.lt
        clear oA
        go_wp2_with (fail)
        clear A0 Al HAk
        go_loopw [5, 7] (fun v iv wr => ∃ (i t : Nat) (p3 : Option Addr) (c3 : Nat), i ≤ nu ∧ Hid (t = 2 + nv * 6 + i * 4) ∧ v = .slice p3 t c3 ∧ iv = .int .i64 i ∧ Hid (wr.ownsRow w1.heap.size 5 1 (.slice p3 t c3) t (nums .u8 EE t)) ∧ Hid (Below w1.heap.size w1 wr)) (fun _ iv _ => (nu - (intOf iv).toNat))
        case atStart => exact ⟨0, t, _, _, Nat.zero_le _, Lib.hid (by have := HT.out; omega), rfl, rfl, ROW, HB⟩
        case round =>
          clear ROW HB HT
          obtain ⟨i, t, p3, c3, hi, HT, rfl, rfl, ROW, HB⟩ := hrel
          by_cases hlt : i < nu
          · obtain ⟨D, o, eq, hD, hh⟩ := HVu.out.at hlt
            subst eq
            have HC := Lib.hid hh
            have hki : (i : Int) < (nu : Int) := by omega
            have k0 : (0 : Int) ≤ (i : Int) := by omega
            have wk : IntKind.i64.wrap ((i : Int) + 1) = (i : Int) + 1 := IntWalk.i64_in _ (by have := LX.out; omega)
            have HLT := Lib.hid hlt
            have HAk := Lib.hid (HA1.out.later HB.out)
            clear hi hlt hh hD
            have oA := HAk.out
            have A1 := oA.at 1 _ rfl
            have Al := oA.lt
            clear oA
            go_wp2_with (fail)
            clear A1 Al HAk
            go_loopw [5, 8] (fun v jv wr => ∃ (k s : Nat) (p3 : Option Addr) (c3 : Nat), k ≤ 2 ∧ Hid (s = t + k * 2) ∧ v = .slice p3 s c3 ∧ jv = .int .i64 k ∧ Hid (wr.ownsRow w1.heap.size 5 1 (.slice p3 s c3) s (nums .u8 EE s)) ∧ Hid (Below w1.heap.size w1 wr)) (fun _ jv _ => (2 - (intOf jv).toNat))
            case atStart => exact ⟨0, t, _, _, Nat.zero_le _, Lib.hid (by omega), rfl, rfl, ROW, HB⟩
            case round =>
              clear ROW HB
              obtain ⟨k, s, p3, c3, hk, HS, rfl, rfl, ROW, HB⟩ := hrel
              by_cases hkt : k < 2
              · have hji : (k : Int) < 2 := by omega
                have j0 : (0 : Int) ≤ (k : Int) := by omega
                have wj : IntKind.i64.wrap ((k : Int) + 1) = (k : Int) + 1 := IntWalk.i64_in _ (by omega)
                have hcell := (HC.out.later HB.out).at k _ (nums_at _ _ hkt)
                have Dl := (HC.out.later HB.out).lt
                have gx := GU.out (i * 2 + k) (by have := HLT.out; omega)
                have f0 := FU.out (i * 2 + k) 0 (by have := HLT.out; omega) (by decide)
                have f1 := FU.out (i * 2 + k) 1 (by have := HLT.out; omega) (by decide)
                rw [show 2 + 2 * (nv * 3) + 2 * (i * 2 + k) + 0 = s by have := HS.out; have := HT.out; omega, dg_00] at f0
                rw [show 2 + 2 * (nv * 3) + 2 * (i * 2 + k) + 1 = s + 1 by have := HS.out; have := HT.out; omega, dg_1] at f1
                obtain ⟨x, ex0⟩ : ∃ x, U (i * 2 + k) = x := ⟨_, rfl⟩
                rw [ex0] at gx f0 f1
                have ex := Lib.hid ex0
                clear ex0
                obtain ⟨y0, e0⟩ : ∃ y, x % 256 = y := ⟨_, rfl⟩
                obtain ⟨y1, e1⟩ : ∃ y, x / 256 = y := ⟨_, rfl⟩
                have m1 : x.tmod 256 = y0 := by rw [Int.tmod_eq_emod_of_nonneg gx.1]; exact e0
                have d1 : x.tdiv 256 = y1 := by rw [Int.tdiv_eq_ediv_of_nonneg gx.1]; exact e1
                have v0 : IntKind.u8.wrap y0 = y0 := by rw [IntKind.wrap_u8']; omega
                have v1 : IntKind.u8.wrap y1 = y1 := by rw [IntKind.wrap_u8']; omega
                have z1 : IntKind.i64.wrap y1 = y1 := IntWalk.i64_in _ (by omega)
                have XS : Hid (nums .u8 EE s ++ [.int .u8 y0, .int .u8 y1] = nums .u8 EE (s + 2)) := Lib.hid (by
                  refine nums_append .u8 EE (fun i => [y0, y1].getD i 0) s 2 (fun i hi => ?_)
                  match i, hi with
                  | 0, _ => rw [Nat.add_zero, f0]; exact e0
                  | 1, _ => rw [f1, e1]; show y1 % 256 = y1; omega)
                have HS2 : Hid (s + 2 = t + (k + 1) * 2) := Lib.hid (by have := HS.out; omega)
                have S9 : s ≤ 1000 := by have := HS.out; have := HT.out; have := LX.out; have := HLT.out; omega
                have N63 := Lib.hid (show s + 2 ≤ maxLen by unfold maxLen; omega)
                have NBY := Lib.hid (show (s + 2) * 1 ≤ 140737488355328 by omega)
                have HKT := Lib.hid hkt
                have HAk := Lib.hid (HA1.out.later HB.out)
                clear hk hkt f0 f1 e0 e1 S9 gx
                go_wp2_with (fail)
                clear hcell Dl
                have SH : Hid (∀ w', Below wr.heap.size wr w' → (w'.cell? ⟨A, 1, none⟩ = some (.slice (some ⟨D, o, none⟩) nu cu) ∧ w'.cell? ⟨D, o + i * 2 + k, none⟩ = some (.int .i64 x) ∧ A < w'.heap.size ∧ D < w'.heap.size)) := Lib.hid fun w' hb => ⟨(HAk.out.later hb).at 1 _ rfl, by have := ((HC.out.later HB.out).later hb).at k _ (nums_at _ _ HKT.out); rw [show U (i * 2 + k) = x from ex.out] at this; exact this, (HAk.out.later hb).lt, ((HC.out.later HB.out).later hb).lt⟩
                have hBd := Below.drew (Below.refl wr.heap.size wr)
                refine wp_region_held_drew (S := fun w' => (w'.cell? ⟨A, 1, none⟩ = some (.slice (some ⟨D, o, none⟩) nu cu) ∧ w'.cell? ⟨D, o + i * 2 + k, none⟩ = some (.int .i64 x) ∧ A < w'.heap.size ∧ D < w'.heap.size)) (by kernel_rfl) (SH.out _ hBd) (fun hHeld => ?_)
                refine wpAnyH_take (i := 0) (v := .slice p3 s c3) rfl (by kernel_rfl) (by kernel_rfl) (by kernel_rfl) (fun _ _ _ h => h) (Or.inl ⟨by rfl, fun w hSw => ?_⟩) (by assumption) ?_
                · (try dsimp only at hSw); go_simp
                try simp only [Act.put, List.getElem_toArray, List.getElem_cons_zero, List.getElem_cons_succ, List.setIfInBounds_toArray, List.set_cons_zero, List.set_cons_succ]
                refine wpAnyH_take (i := 1) (v := .pointer (some ⟨A, 1, none⟩)) rfl (by kernel_rfl) (by kernel_rfl) (by kernel_rfl) (fun _ _ _ h => h) (Or.inl ⟨by rfl, fun w hSw => ?_⟩) (by assumption) ?_
                · (try dsimp only at hSw); go_simp
                try simp only [Act.put, List.getElem_toArray, List.getElem_cons_zero, List.getElem_cons_succ, List.setIfInBounds_toArray, List.set_cons_zero, List.set_cons_succ]
                refine wpAnyH_take (i := 2) (v := .slice (some ⟨D, o, none⟩) nu cu) rfl (by kernel_rfl) (by kernel_rfl) (by kernel_rfl) (fun _ _ _ h => h) (Or.inl ⟨by rfl, fun w hSw => ?_⟩) (by assumption) ?_
                · (try dsimp only at hSw); go_simp
                try simp only [Act.put, List.getElem_toArray, List.getElem_cons_zero, List.getElem_cons_succ, List.setIfInBounds_toArray, List.set_cons_zero, List.set_cons_succ]
                refine wpAnyH_take (i := 3) (v := .int .i64 (i : Int)) rfl (by kernel_rfl) (by kernel_rfl) (by kernel_rfl) (fun _ _ _ h => h) (Or.inl ⟨by rfl, fun w hSw => ?_⟩) (by assumption) ?_
                · (try dsimp only at hSw); go_simp
                try simp only [Act.put, List.getElem_toArray, List.getElem_cons_zero, List.getElem_cons_succ, List.setIfInBounds_toArray, List.set_cons_zero, List.set_cons_succ]
                refine wpAnyH_take (i := 4) (v := .int .i64 (k : Int)) rfl (by kernel_rfl) (by kernel_rfl) (by kernel_rfl) (fun _ _ _ h => h) (Or.inl ⟨by rfl, fun w hSw => ?_⟩) (by assumption) ?_
                · (try dsimp only at hSw); go_simp
                try simp only [Act.put, List.getElem_toArray, List.getElem_cons_zero, List.getElem_cons_succ, List.setIfInBounds_toArray, List.set_cons_zero, List.set_cons_succ]
                refine wpAnyH_take (i := 5) (v := .pointer (some ⟨D, o + i * 2, none⟩)) rfl (by kernel_rfl) (by kernel_rfl) (by kernel_rfl) (fun _ _ _ h => h) (Or.inl ⟨by rfl, fun w hSw => ?_⟩) (by assumption) ?_
                · (try dsimp only at hSw); go_simp
                try simp only [Act.put, List.getElem_toArray, List.getElem_cons_zero, List.getElem_cons_succ, List.setIfInBounds_toArray, List.set_cons_zero, List.set_cons_succ]
                refine wpAnyH_take (i := 6) (v := .pointer (some ⟨D, o + i * 2 + k, none⟩)) rfl (by kernel_rfl) (by kernel_rfl) (by kernel_rfl) (fun _ _ _ h => h) (Or.inl ⟨by rfl, fun w hSw => ?_⟩) (by assumption) ?_
                · (try dsimp only at hSw); go_simp
                try simp only [Act.put, List.getElem_toArray, List.getElem_cons_zero, List.getElem_cons_succ, List.setIfInBounds_toArray, List.set_cons_zero, List.set_cons_succ]
                refine wpAnyH_take (i := 7) (v := .int .i64 x) rfl (by kernel_rfl) (by kernel_rfl) (by kernel_rfl) (fun _ _ _ h => h) (Or.inl ⟨by rfl, fun w hSw => ?_⟩) (by assumption) ?_
                · (try dsimp only at hSw); go_simp
                try simp only [Act.put, List.getElem_toArray, List.getElem_cons_zero, List.getElem_cons_succ, List.setIfInBounds_toArray, List.set_cons_zero, List.set_cons_succ]
                refine wpAnyH_take (i := 8) (v := .int .i64 y0) rfl (by kernel_rfl) (by kernel_rfl) (by kernel_rfl) (fun _ _ _ h => h) (Or.inl ⟨by rfl, fun w hSw => ?_⟩) (by assumption) ?_
                · (try dsimp only at hSw); go_simp
                try simp only [Act.put, List.getElem_toArray, List.getElem_cons_zero, List.getElem_cons_succ, List.setIfInBounds_toArray, List.set_cons_zero, List.set_cons_succ]
                refine wpAnyH_take (i := 9) (v := .int .u8 y0) rfl (by kernel_rfl) (by kernel_rfl) (by kernel_rfl) (fun _ _ _ h => h) (Or.inl ⟨by rfl, fun w hSw => ?_⟩) (by assumption) ?_
                · (try dsimp only at hSw); go_simp
                try simp only [Act.put, List.getElem_toArray, List.getElem_cons_zero, List.getElem_cons_succ, List.setIfInBounds_toArray, List.set_cons_zero, List.set_cons_succ]
                refine wpAnyH_take (i := 10) (v := .pointer (some ⟨A, 1, none⟩)) rfl (by kernel_rfl) (by kernel_rfl) (by kernel_rfl) (fun _ _ _ h => h) (Or.inl ⟨by rfl, fun w hSw => ?_⟩) (by assumption) ?_
                · (try dsimp only at hSw); go_simp
                try simp only [Act.put, List.getElem_toArray, List.getElem_cons_zero, List.getElem_cons_succ, List.setIfInBounds_toArray, List.set_cons_zero, List.set_cons_succ]
                refine wpAnyH_take (i := 11) (v := .slice (some ⟨D, o, none⟩) nu cu) rfl (by kernel_rfl) (by kernel_rfl) (by kernel_rfl) (fun _ _ _ h => h) (Or.inl ⟨by rfl, fun w hSw => ?_⟩) (by assumption) ?_
                · (try dsimp only at hSw); go_simp
                try simp only [Act.put, List.getElem_toArray, List.getElem_cons_zero, List.getElem_cons_succ, List.setIfInBounds_toArray, List.set_cons_zero, List.set_cons_succ]
                refine wpAnyH_take (i := 12) (v := .int .i64 (i : Int)) rfl (by kernel_rfl) (by kernel_rfl) (by kernel_rfl) (fun _ _ _ h => h) (Or.inl ⟨by rfl, fun w hSw => ?_⟩) (by assumption) ?_
                · (try dsimp only at hSw); go_simp
                try simp only [Act.put, List.getElem_toArray, List.getElem_cons_zero, List.getElem_cons_succ, List.setIfInBounds_toArray, List.set_cons_zero, List.set_cons_succ]
                refine wpAnyH_take (i := 13) (v := .int .i64 (k : Int)) rfl (by kernel_rfl) (by kernel_rfl) (by kernel_rfl) (fun _ _ _ h => h) (Or.inl ⟨by rfl, fun w hSw => ?_⟩) (by assumption) ?_
                · (try dsimp only at hSw); go_simp
                try simp only [Act.put, List.getElem_toArray, List.getElem_cons_zero, List.getElem_cons_succ, List.setIfInBounds_toArray, List.set_cons_zero, List.set_cons_succ]
                refine wpAnyH_take (i := 14) (v := .pointer (some ⟨D, o + i * 2, none⟩)) rfl (by kernel_rfl) (by kernel_rfl) (by kernel_rfl) (fun _ _ _ h => h) (Or.inl ⟨by rfl, fun w hSw => ?_⟩) (by assumption) ?_
                · (try dsimp only at hSw); go_simp
                try simp only [Act.put, List.getElem_toArray, List.getElem_cons_zero, List.getElem_cons_succ, List.setIfInBounds_toArray, List.set_cons_zero, List.set_cons_succ]
                refine wpAnyH_take (i := 15) (v := .pointer (some ⟨D, o + i * 2 + k, none⟩)) rfl (by kernel_rfl) (by kernel_rfl) (by kernel_rfl) (fun _ _ _ h => h) (Or.inl ⟨by rfl, fun w hSw => ?_⟩) (by assumption) ?_
                · (try dsimp only at hSw); go_simp
                try simp only [Act.put, List.getElem_toArray, List.getElem_cons_zero, List.getElem_cons_succ, List.setIfInBounds_toArray, List.set_cons_zero, List.set_cons_succ]
                refine wpAnyH_take (i := 16) (v := .int .i64 x) rfl (by kernel_rfl) (by kernel_rfl) (by kernel_rfl) (fun _ _ _ h => h) (Or.inl ⟨by rfl, fun w hSw => ?_⟩) (by assumption) ?_
                · (try dsimp only at hSw); go_simp
                try simp only [Act.put, List.getElem_toArray, List.getElem_cons_zero, List.getElem_cons_succ, List.setIfInBounds_toArray, List.set_cons_zero, List.set_cons_succ]
                refine wpAnyH_take (i := 17) (v := .int .i64 y1) rfl (by kernel_rfl) (by kernel_rfl) (by kernel_rfl) (fun _ _ _ h => h) (Or.inl ⟨by rfl, fun w hSw => ?_⟩) (by assumption) ?_
                · (try dsimp only at hSw); go_simp
                try simp only [Act.put, List.getElem_toArray, List.getElem_cons_zero, List.getElem_cons_succ, List.setIfInBounds_toArray, List.set_cons_zero, List.set_cons_succ]
                refine wpAnyH_take (i := 18) (v := .int .u8 y1) rfl (by kernel_rfl) (by kernel_rfl) (by kernel_rfl) (fun _ _ _ h => h) (Or.inl ⟨by rfl, fun w hSw => ?_⟩) (by assumption) ?_
                · (try dsimp only at hSw); go_simp
                try simp only [Act.put, List.getElem_toArray, List.getElem_cons_zero, List.getElem_cons_succ, List.setIfInBounds_toArray, List.set_cons_zero, List.set_cons_succ]
                refine wpAnyH_ready (rs := [19]) (by kernel_rfl) (by simp) ?_
                refine AllReadyH.cons rfl (fun K hK => ?_) AllReadyH.nil
                go_simp
                have hby : Below wr.heap.size wr (wr.alloc (.cells #[.int .u8 y0, .int .u8 y1] 5)).drew := (Below.al (Below.refl _ _)).drew
                have HN : Own wr.heap.size [.int .u8 y0, .int .u8 y1] (wr.alloc (.cells #[.int .u8 y0, .int .u8 y1] 5)).drew := (Own.newAt rfl).drew
                have ROWy := row_later ROW.out hby
                have HBy := Below.go HB.out hby
                generalize (wr.alloc (.cells #[.int .u8 y0, .int .u8 y1] 5)).drew = y at *
                refine hK.out _ _ (SH.out _ hby) (fun hHeld => ?_)
                clear hK K
                try simp only [Act.put, List.getElem_toArray, List.getElem_cons_zero, List.getElem_cons_succ, List.setIfInBounds_toArray, List.set_cons_zero, List.set_cons_succ]
                refine wpAnyH_ready (rs := [20]) (by kernel_rfl) (by simp) ?_
                refine AllReadyH.cons rfl (fun K hK => ?_) AllReadyH.nil
                refine step_append_to rfl _ _ 28 rfl 5 b0 (.int .u8 0) 1 1 Try.underlying28 bi bz0 bz1 bz2 rfl (by decide) w1.heap.size _ s _ rfl ROWy ⟨wr.heap.size, 0, none⟩ 2 2 [.int .u8 y0, .int .u8 y1] rfl rfl HN.news (by intro v hv; simp at hv; rcases hv with rfl | rfl <;> rfl) N63.out NBY.out HBy.size ?_
                intro v' w6 hrow hgr
                obtain ⟨p', c', rfl, _⟩ := row_form hrow
                rw [XS.out] at hrow
                have h6 : Below w1.heap.size w1 w6 := HBy.grown hgr HBy.size fun q hq => row_ge ROWy q hq
                have o4 := Lib.hid h6
                have o6 := Lib.hid hrow
                refine hK.out _ _ ⟨(HA1.out.later h6).at 1 _ rfl, by have := (HC.out.later h6).at k _ (nums_at _ _ HKT.out); rw [show U (i * 2 + k) = x from ex.out] at this; exact this, (HA1.out.later h6).lt, (HC.out.later h6).lt⟩ (fun hHeld => ?_)
                clear hK K hrow hgr h6 HN ROWy HBy hby hBd
                try simp only [Act.put, List.getElem_toArray, List.getElem_cons_zero, List.getElem_cons_succ, List.setIfInBounds_toArray, List.set_cons_zero, List.set_cons_succ]
                refine wpAnyH_ready (rs := [21]) (by kernel_rfl) (by simp) ?_
                refine AllReadyH.cons rfl (fun K hK => ?_) AllReadyH.nil
                go_simp
                refine hK.out _ _ hHeld (fun hHeld => ?_)
                clear hK K
                try simp only [Act.put, List.getElem_toArray, List.getElem_cons_zero, List.getElem_cons_succ, List.setIfInBounds_toArray, List.set_cons_zero, List.set_cons_succ]
                refine wpAnyH_done (by kernel_rfl) ?_ _
                clear hHeld SH HAk ROW HB m1 d1 v0 v1 z1
                go_wp2_with (fail)
                go_roundw
                case rel => (first | exact ⟨k + 1, s + 2, _, _, HKT.out, HS2, rfl, by go_num, o6, o4⟩ | ((repeat apply Exists.intro); exact ⟨⟨k + 1, s + 2, _, _, HKT.out, HS2, rfl, by go_num, o6, o4⟩, rfl⟩))
                case measure => (have := HKT.out; simp [intOf]; omega)
              · obtain rfl : 2 = k := by omega
                have HT2 : Hid (s = 2 + nv * 6 + (i + 1) * 4) := Lib.hid (by have := HS.out; have := HT.out; omega)
                clear hkt hk
                go_wp2_with (fail)
                go_roundw
                case rel => (first | exact ⟨i + 1, s, _, _, HLT.out, HT2, rfl, by go_num, ROW, HB⟩ | ((repeat apply Exists.intro); exact ⟨⟨i + 1, s, _, _, HLT.out, HT2, rfl, by go_num, ROW, HB⟩, rfl⟩))
                case measure => (have := HLT.out; simp [intOf]; omega)
          · obtain rfl : nu = i := by omega
            clear hlt hi
            have HAk := Lib.hid (HA1.out.later HB.out)
            have oA := HAk.out
            have A1 := oA.at 1 _ rfl
            have Al := oA.lt
            clear oA
            go_wp2_with (fail)
            clear A1 Al HAk
            go_loopw [5, 9] (fun v iv wr => ∃ (i t : Nat) (p3 : Option Addr) (c3 : Nat), i ≤ nt ∧ Hid (t = 2 + nv * 6 + nu * 4 + i * 3) ∧ v = .slice p3 t c3 ∧ iv = .int .i64 i ∧ Hid (wr.ownsRow w1.heap.size 5 1 (.slice p3 t c3) t (nums .u8 EE t)) ∧ Hid (Below w1.heap.size w1 wr)) (fun _ iv _ => (nt - (intOf iv).toNat))
            case atStart => exact ⟨0, t, _, _, Nat.zero_le _, Lib.hid (by have := HT.out; omega), rfl, rfl, ROW, HB⟩
            case round =>
              clear ROW HB HT
              obtain ⟨i, t, p3, c3, hi, HT, rfl, rfl, ROW, HB⟩ := hrel
              by_cases hlt : i < nt
              · obtain ⟨D, o, eq, hD, hh⟩ := HVt.out.at hlt
                subst eq
                have HC := Lib.hid hh
                have hki : (i : Int) < (nt : Int) := by omega
                have k0 : (0 : Int) ≤ (i : Int) := by omega
                have wk : IntKind.i64.wrap ((i : Int) + 1) = (i : Int) + 1 := IntWalk.i64_in _ (by have := LX.out; omega)
                have HLT := Lib.hid hlt
                have HAk := Lib.hid (HA1.out.later HB.out)
                clear hi hlt hh hD
                have oA := HAk.out
                have A2 := oA.at 2 _ rfl
                have Al := oA.lt
                clear oA
                go_wp2_with (fail)
                clear A2 Al HAk
                go_loopw [5, 10] (fun v jv wr => ∃ (k s : Nat) (p3 : Option Addr) (c3 : Nat), k ≤ 3 ∧ Hid (s = t + k) ∧ v = .slice p3 s c3 ∧ jv = .int .i64 k ∧ Hid (wr.ownsRow w1.heap.size 5 1 (.slice p3 s c3) s (nums .u8 EE s)) ∧ Hid (Below w1.heap.size w1 wr)) (fun _ jv _ => (3 - (intOf jv).toNat))
                case atStart => exact ⟨0, t, _, _, Nat.zero_le _, Lib.hid (by omega), rfl, rfl, ROW, HB⟩
                case round =>
                  clear ROW HB
                  obtain ⟨k, s, p3, c3, hk, HS, rfl, rfl, ROW, HB⟩ := hrel
                  by_cases hkt : k < 3
                  · have hji : (k : Int) < 3 := by omega
                    have j0 : (0 : Int) ≤ (k : Int) := by omega
                    have wj : IntKind.i64.wrap ((k : Int) + 1) = (k : Int) + 1 := IntWalk.i64_in _ (by omega)
                    have gx := GT.out (i * 3 + k) (by have := HLT.out; omega)
                    have f0 := FT.out (i * 3 + k)
                    rw [show 2 + 2 * (nv * 3) + 2 * (nu * 2) + (i * 3 + k) = s by have := HS.out; have := HT.out; omega] at f0
                    have hcell : wr.cell? ⟨D, o + i * 3 + k, none⟩ = some (.int .i64 (R (i * 3 + k))) := (HC.out.later HB.out).at k _ (nums_at _ _ hkt)
                    have Dl := (HC.out.later HB.out).lt
                    generalize R (i * 3 + k) = x at hcell gx f0
                    rw [dg_0 (by have := LX.out; omega)] at f0
                    have v0 : IntKind.u8.wrap x = x := by rw [IntKind.wrap_u8']; have := LX.out; omega
                    have XS : Hid (nums .u8 EE s ++ [.int .u8 x] = nums .u8 EE (s + 1)) := Lib.hid (by
                      refine nums_append .u8 EE (fun _ => x) s 1 (fun i hi => ?_)
                      obtain rfl : i = 0 := by omega
                      rw [Nat.add_zero]; exact f0)
                    have HS2 : Hid (s + 1 = t + (k + 1)) := Lib.hid (by have := HS.out; omega)
                    have S9 : s ≤ 1000 := by have := HS.out; have := HT.out; have := LX.out; have := HLT.out; omega
                    have N63 := Lib.hid (show s + 1 ≤ maxLen by unfold maxLen; omega)
                    have NBY := Lib.hid (show (s + 1) * 1 ≤ 140737488355328 by omega)
                    have HKT := Lib.hid hkt
                    have HAk := Lib.hid (HA1.out.later HB.out)
                    have HS3 : Hid (w1.heap.size ≤ (wr.alloc (.cells #[.int .u8 x] 5)).heap.size) := Lib.hid (Below.al HB.out).size
                    clear hk hkt f0 S9 gx
                    have oA := HAk.out
                    have A2 := oA.at 2 _ rfl
                    have Al := oA.lt
                    clear oA
                    go_wp2_with (at_builtin; refine wpList_append_own _ rfl _ _ 28 rfl w1.heap.size 5 b0 (.int .u8 0) 1 1 Try.underlying28 bi bz0 bz1 bz2 rfl (by decide) _ s _ rfl (row_later ROW.out (Below.al (Below.refl _ _))) ⟨wr.heap.size, 0, none⟩ 1 1 [.int .u8 x] rfl rfl (Own.newAt (by rfl)).news (by intro v hv; simp at hv; rcases hv with rfl; rfl) N63.out NBY.out HS3.out ?_; intro v' w6 hrow hgr _; obtain ⟨p', c', rfl, _⟩ := row_form hrow; rw [XS.out] at hrow; have o4 := Lib.hid ((Below.al HB.out).grown hgr (Below.al HB.out).size fun q hq => row_ge ROW.out q hq); have o6 := Lib.hid hrow; clear hrow hgr)
                    go_roundw
                    case rel => (first | exact ⟨k + 1, s + 1, _, _, HKT.out, HS2, rfl, by go_num, o6, o4⟩ | ((repeat apply Exists.intro); exact ⟨⟨k + 1, s + 1, _, _, HKT.out, HS2, rfl, by go_num, o6, o4⟩, rfl⟩))
                    case measure => (have := HKT.out; simp [intOf]; omega)
                  · obtain rfl : 3 = k := by omega
                    have HT2 : Hid (s = 2 + nv * 6 + nu * 4 + (i + 1) * 3) := Lib.hid (by have := HS.out; have := HT.out; omega)
                    clear hkt hk
                    go_wp2_with (fail)
                    go_roundw
                    case rel => (first | exact ⟨i + 1, s, _, _, HLT.out, HT2, rfl, by go_num, ROW, HB⟩ | ((repeat apply Exists.intro); exact ⟨⟨i + 1, s, _, _, HLT.out, HT2, rfl, by go_num, ROW, HB⟩, rfl⟩))
                    case measure => (have := HLT.out; simp [intOf]; omega)
              · obtain rfl : nt = i := by omega
                have et : t = NN := by have := HT.out; have := EN.out; omega
                have RW : RowR wr (.slice p3 t c3) NN EE := by rw [← et]; exact RowR.of ROW.out
                have RWH := Lib.hid RW
                have HB5 := Lib.hid (Below.go HB1.out HB.out)
                clear hlt hi RW et
                have oA := (HA1.out.later HB.out)
                have A2 := oA.at 2 _ rfl
                have Al := oA.lt
                clear oA
                go_wp2_with (fail)
                exact bodyPost_ret (v := .tuple #[.slice p3 t c3, .int .i64 0]) (by simp [results, Try.results10, go_sem]) rfl ⟨⟨_, rfl, RWH.out⟩, HB5.out⟩
  · have hd : (z != 0) = true := by simpa using hz
    rw [show encL z (encN M.nv M.nu M.nt) = 0 from if_neg hz]
    clear GD
    go_enter Try.func10, Try.ntmps10
    go_upto_region 1 with fail
    obtain ⟨W0, hW⟩ : ∃ W0, W0 = (w.alloc (.cells #[.slice M.qv M.nv M.cv, .slice M.qu M.nu M.cu, .slice M.qt M.nt M.ct] 26)) := ⟨_, rfl⟩
    have hB0 : Below w.heap.size w W0 := hW ▸ (Below.al (Below.refl _ _))
    have HA : Hid (Own w.heap.size [.slice M.qv M.nv M.cv, .slice M.qu M.nu M.cu, .slice M.qt M.nt M.ct] W0) := Lib.hid (hW ▸ (Own.newAt (by simp)))
    rw [← hW]
    clear hW
    obtain ⟨A, eA⟩ : ∃ X, X = w.heap.size := ⟨_, rfl⟩
    rw [← eA] at HA ⊢
    have Aw : w.heap.size ≤ A := by omega
    clear eA
    have HM0 := Lib.hid (HM.out.later hB0)
    have oA := HA.out
    have A0 := oA.at 0 _ rfl
    have A1 := oA.at 1 _ rfl
    have A2 := oA.at 2 _ rfl
    have Al := oA.lt
    clear oA
    go_wp2_with (fail)
    go_at_call 12
    refine (CK.out _ HM0.out).mono ?_
    rintro e w1 ⟨rfl, hb⟩
    have HB1 := Lib.hid (Below.go hB0 hb)
    clear hb hB0 HM HM0 HA CK A0 A1 A2 Al
    go_wp2_with (fail)
    exact bodyPost_ret (v := .tuple #[.slice none 0 0, .int .i64 z]) (by simp [results, Try.results10, go_sem]) rfl ⟨⟨_, rfl, none, 0, rfl, Nat.le_refl _, by decide, .inl rfl⟩, HB1.out⟩
end Go.Proofs.Ytnopcgkhoennfaa
