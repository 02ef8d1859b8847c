/- texture: the document's Half. -/
import Derived.Test.YtbhdlpndmbhaiaaMUA
import Derived.Lib.Hide
import Derived.LoopN
import Derived.LoopTactic
import Derived.Deep.Onto
import Derived.Deep.RegionHeld3
import Derived.Deep.QuietTactic
import Derived.BigQuiet
import Derived.StillTailTactics
import Derived.Great.BuildSlice
namespace Go.Proofs.Ytbhdlpndmbhaiaa
set_option linter.unusedVariables false
set_option maxRecDepth 2000
set_option linter.unusedSimpArgs false
open Go.RowKit
theorem mdN_id {x s : Nat} (h : x < s) : mdN (x : Int) s = x := by
  unfold mdN
  rw [← Int.natCast_emod, Int.toNat_natCast, Nat.mod_eq_of_lt h]
set_option maxHeartbeats 8000000 in
theorem RHalf_no (M : Txr) (w : World) (hM : TxAt M w) (hz : hlfE M.S (chkT M.S M.n M.f) ≠ 0) :
    Calls Try.prog 19 #[.agg #[.int .i64 M.S, .slice M.q M.n M.c]] w fun e w' => e = .returned (.tuple #[.agg #[.int .i64 0, .slice none 0 0], .int .i64 (hlfE M.S (chkT M.S M.n M.f))]) ∧ Below w.heap.size w w' := by
  have HM := Lib.hid hM
  have CK := Lib.hid (RCheck_any M)
  obtain ⟨S, q, n, c, f⟩ := M
  dsimp only at *
  generalize chkT S n f = z at *
  clear hM
  by_cases h0 : z = 0
  · subst h0
    have hS : S = 1 := by
      unfold hlfE at hz
      rw [if_pos rfl] at hz
      split at hz
      · assumption
      · exact absurd rfl hz
    subst hS
    rw [show hlfE 1 0 = 2 from rfl]
    clear hz
    go_enter Try.func19, Try.ntmps19
    go_upto_region 1 with fail
    obtain ⟨W0, hW⟩ : ∃ W0, W0 = ((w.alloc (.cells #[.int .i64 1, .slice q n c] 24)).alloc (.cells #[.int .i64 0, .slice none 0 0] 24)) := ⟨_, rfl⟩
    have hB0 : Below w.heap.size w W0 := hW ▸ (Below.al (Below.al (Below.refl _ _)))
    have HA : Hid (Own w.heap.size [.int .i64 1, .slice q n c] W0) := Lib.hid (hW ▸ (Own.newAt (by simp)).alloc)
    have HR : Hid (Own (w.heap.size + 1) [.int .i64 0, .slice none 0 0] W0) := Lib.hid (hW ▸ (Own.newAt (by simp)))
    rw [← hW]
    clear hW
    obtain ⟨R, eR⟩ : ∃ X, X = (w.heap.size + 1) := ⟨_, rfl⟩
    rw [← eR] at HR ⊢
    have Rw : w.heap.size ≤ R := by omega
    obtain ⟨A, eA⟩ : ∃ X, X = w.heap.size := ⟨_, rfl⟩
    rw [← eA] at HA ⊢
    have nAR : A ≠ R := by omega
    have nRA : R ≠ A := by omega
    clear eA eR
    have HM0 := Lib.hid (HM.out.later hB0)
    have A0 := HA.out.at 0 _ rfl; have A1 := HA.out.at 1 _ rfl; have Al := HA.out.lt
    go_wp2_with (fail)
    go_at_call 12
    refine (CK.out _ HM0.out).mono ?_
    rintro e w1 ⟨rfl, hb⟩
    have HA1 := Lib.hid (HA.out.later hb)
    have HR1 := Lib.hid (HR.out.later hb)
    have HB1 := Lib.hid (Below.go hB0 hb)
    clear hb hB0 HM0 HA HR CK A0 A1 Al
    have R0 := HR1.out.at 0 _ rfl; have Rf0 := HR1.out.ok 0 (by simp); have R1 := HR1.out.at 1 _ rfl; have Rf1 := HR1.out.ok 1 (by simp); have Rl := HR1.out.lt
    have A0 := HA1.out.at 0 _ rfl; have Al := HA1.out.lt
    go_wp2_with (fail)
    clear R0 Rf0 R1 Rf1 Rl
    rw [show ((w1.setCell ⟨R, 0, none⟩ (.int .i64 0)).setCell ⟨R, 1, none⟩ (.slice none 0 0)) = w1.setCells R 0 [.int .i64 0, .slice none 0 0] from rfl]
    have HR5 : Hid (Own R [.int .i64 0, .slice none 0 0] (w1.setCells R 0 [.int .i64 0, .slice none 0 0])) := Lib.hid (Own.store HR1.out rfl)
    have HB5 : Below w.heap.size w (w1.setCells R 0 [.int .i64 0, .slice none 0 0]) := Below.setCells HB1.out Rw _ _
    generalize w1.setCells R 0 [.int .i64 0, .slice none 0 0] = W5 at *
    have hL := run_loadVar_mid (P := Try.prog) _ R 0 24 [.int .i64 0, .slice none 0 0] _ HR5.out.cell Try.underlying24 rfl (by kernel_rfl)
    refine bodyPost_ret (v := .tuple #[.agg ([.int .i64 0, .slice none 0 0] : List Value).toArray, .int .i64 2]) ?_ rfl ?_
    · exact res_two Try.results19 rfl hL rfl
    · exact ⟨rfl, HB5⟩
  · have hd : (z != 0) = true := by simpa using h0
    rw [show hlfE S z = z from if_neg h0]
    clear hz h0
    go_enter Try.func19, Try.ntmps19
    go_upto_region 1 with fail
    obtain ⟨W0, hW⟩ : ∃ W0, W0 = ((w.alloc (.cells #[.int .i64 S, .slice q n c] 24)).alloc (.cells #[.int .i64 0, .slice none 0 0] 24)) := ⟨_, rfl⟩
    have hB0 : Below w.heap.size w W0 := hW ▸ (Below.al (Below.al (Below.refl _ _)))
    have HA : Hid (Own w.heap.size [.int .i64 S, .slice q n c] W0) := Lib.hid (hW ▸ (Own.newAt (by simp)).alloc)
    have HR : Hid (Own (w.heap.size + 1) [.int .i64 0, .slice none 0 0] W0) := Lib.hid (hW ▸ (Own.newAt (by simp)))
    rw [← hW]
    clear hW
    obtain ⟨R, eR⟩ : ∃ X, X = (w.heap.size + 1) := ⟨_, rfl⟩
    rw [← eR] at HR ⊢
    have Rw : w.heap.size ≤ R := by omega
    obtain ⟨A, eA⟩ : ∃ X, X = w.heap.size := ⟨_, rfl⟩
    rw [← eA] at HA ⊢
    have nAR : A ≠ R := by omega
    have nRA : R ≠ A := by omega
    clear eA eR
    have HM0 := Lib.hid (HM.out.later hB0)
    have A0 := HA.out.at 0 _ rfl; have A1 := HA.out.at 1 _ rfl; have Al := HA.out.lt
    go_wp2_with (fail)
    go_at_call 12
    refine (CK.out _ HM0.out).mono ?_
    rintro e w1 ⟨rfl, hb⟩
    have HA1 := Lib.hid (HA.out.later hb)
    have HR1 := Lib.hid (HR.out.later hb)
    have HB1 := Lib.hid (Below.go hB0 hb)
    clear hb hB0 HM0 HA HR CK A0 A1 Al
    have R0 := HR1.out.at 0 _ rfl; have Rf0 := HR1.out.ok 0 (by simp); have R1 := HR1.out.at 1 _ rfl; have Rf1 := HR1.out.ok 1 (by simp); have Rl := HR1.out.lt
    go_wp2_with (fail)
    clear R0 Rf0 R1 Rf1 Rl
    rw [show ((w1.setCell ⟨R, 0, none⟩ (.int .i64 0)).setCell ⟨R, 1, none⟩ (.slice none 0 0)) = w1.setCells R 0 [.int .i64 0, .slice none 0 0] from rfl]
    have HR5 : Hid (Own R [.int .i64 0, .slice none 0 0] (w1.setCells R 0 [.int .i64 0, .slice none 0 0])) := Lib.hid (Own.store HR1.out rfl)
    have HB5 : Below w.heap.size w (w1.setCells R 0 [.int .i64 0, .slice none 0 0]) := Below.setCells HB1.out Rw _ _
    generalize w1.setCells R 0 [.int .i64 0, .slice none 0 0] = W5 at *
    have hL := run_loadVar_mid (P := Try.prog) _ R 0 24 [.int .i64 0, .slice none 0 0] _ HR5.out.cell Try.underlying24 rfl (by kernel_rfl)
    refine bodyPost_ret (v := .tuple #[.agg ([.int .i64 0, .slice none 0 0] : List Value).toArray, .int .i64 z]) ?_ rfl ?_
    · exact res_two Try.results19 rfl hL rfl
    · exact ⟨rfl, HB5⟩
set_option maxHeartbeats 32000000 in
theorem RHalf_yes (M : Txr) (sd h : Nat) (w : World) (hM : TxAt M w) (hz : chkT M.S M.n M.f = 0) (eS : M.S = (sd : Int)) (es : sd = 2 * h) (h1 : 1 ≤ h) (h8 : h ≤ 8) (hn : M.n = sd * sd) :
    Calls Try.prog 19 #[.agg #[.int .i64 M.S, .slice M.q M.n M.c]] w fun e w' => ∃ p d, e = .returned (.tuple #[.agg #[.int .i64 h, .slice p (h * h) d], .int .i64 0]) ∧ w'.ownsRow w.heap.size 50 3 (.slice p (h * h) d) (h * h) (nums .i64 (hlfF M.f sd h) (h * h * 3)) ∧ Below w.heap.size w w' := by
  have HM := Lib.hid hM
  have CK := Lib.hid (RCheck_any M)
  have GV := (tchk_good hz).v
  obtain ⟨S, q, n, c, f⟩ := M
  dsimp only at *
  rw [hz] at CK
  subst eS
  have TX := Lib.hid (fun x y (hx : x < sd) (hy : y < sd) w hm => (mdN_id hx ▸ mdN_id hy ▸ Texel_any (sd : Int) q n c sd (x : Nat) (y : Nat) f rfl (by omega) (by omega) hn w hm))
  have AX : Hid (∀ x y a b, x < h → y < h → a ≤ 1 → b ≤ 1 → (2 * y + b) * sd + (2 * x + a) < n) := Lib.hid fun x y a b hx hy ha hb => by rw [hn]; exact ix2_lt es hx hy a b ha hb
  have TF : Hid (∀ x y i, y * sd + x < n → i < 3 → in255 (txl f sd x y i)) := Lib.hid fun x y i hxy hi => GV _ (by omega)
  have HE := Lib.hid es; have HH8 := Lib.hid h8; have HH1 := Lib.hid h1
  have ne : ((sd : Int) == 1) = false := by simp; omega
  have td : ((sd : Int)).tdiv 2 = (h : Int) := by rw [Int.tdiv_eq_ediv_of_nonneg (by omega)]; omega
  have wtd : IntKind.i64.wrap (h : Int) = (h : Int) := IntWalk.i64_in _ (by omega)
  obtain ⟨i0, hi, hz0, hz1, hz2⟩ := infoX_parts
  obtain ⟨G, eG⟩ : ∃ G, G = hlfF f sd h := ⟨_, rfl⟩
  have GA : Hid (∀ x y i, x < h → i < 3 → G ((y * h + x) * 3 + i) = hlfT f sd x y i) := Lib.hid fun x y i hx hi => by rw [eG]; exact hlfF_at f sd h x y i hx hi
  rw [← eG]
  clear eG hM hz GV hn es h8 h1
  go_enter Try.func19, Try.ntmps19
  go_upto_region 1 with fail
  obtain ⟨W0, hW⟩ : ∃ W0, W0 = ((w.alloc (.cells #[.int .i64 (sd : Int), .slice q n c] 24)).alloc (.cells #[.int .i64 0, .slice none 0 0] 24)) := ⟨_, rfl⟩
  have hB0 : Below w.heap.size w W0 := hW ▸ (Below.al (Below.al (Below.refl _ _)))
  have HA : Hid (Own w.heap.size [.int .i64 (sd : Int), .slice q n c] W0) := Lib.hid (hW ▸ (Own.newAt (by simp)).alloc)
  have HR : Hid (Own (w.heap.size + 1) [.int .i64 0, .slice none 0 0] W0) := Lib.hid (hW ▸ (Own.newAt (by simp)))
  rw [← hW]
  clear hW
  obtain ⟨R, eR⟩ : ∃ X, X = (w.heap.size + 1) := ⟨_, rfl⟩
  rw [← eR] at HR ⊢
  have Rw : w.heap.size ≤ R := by omega
  obtain ⟨A, eA⟩ : ∃ X, X = w.heap.size := ⟨_, rfl⟩
  rw [← eA] at HA ⊢
  have nAR : A ≠ R := by omega
  have nRA : R ≠ A := by omega
  clear eA eR
  have HM0 := Lib.hid (HM.out.later hB0)
  have A0 := HA.out.at 0 _ rfl; have A1 := HA.out.at 1 _ rfl; have Al := HA.out.lt
  go_wp2_with (fail)
  go_at_call 12
  refine (CK.out _ HM0.out).mono ?_
  rintro e w1 ⟨rfl, hb⟩
  have HA1 := Lib.hid (HA.out.later hb)
  have HR1 := Lib.hid (HR.out.later hb)
  have HB1 := Lib.hid (Below.go hB0 hb)
  clear hb hB0 HM0 HA HR CK A0 A1 Al
  have HT1 := Lib.hid (HM.out.t.later HB1.out)
  dsimp only at HT1
  have RW := Lib.hid Rw
  clear HM Rw
  have A0 := HA1.out.at 0 _ rfl; have Al := HA1.out.lt
  go_upto_region 7 with fail
  clear A0 Al ne
  obtain ⟨W1, hW⟩ : ∃ W1, W1 = (w1.alloc (.cells #[.int .i64 h, .slice none 0 0] 24)) := ⟨_, rfl⟩
  have hBK : Below w1.heap.size w1 W1 := hW ▸ (Below.al (Below.refl _ _))
  have HK : Hid (Own w1.heap.size [.int .i64 h, .slice none 0 0] W1) := Lib.hid (hW ▸ (Own.newAt (by simp)))
  rw [← hW]
  clear hW
  obtain ⟨K, eK⟩ : ∃ X, X = w1.heap.size := ⟨_, rfl⟩
  rw [← eK] at HK ⊢
  have Kw : w1.heap.size ≤ K := by omega
  clear eK
  have HX : Hid (Below w1.heap.size w1 W1) := Lib.hid hBK
  have RB : Hid (w1.heap.size ≤ W1.heap.size) := Lib.hid hBK.size
  have KL : Hid (K < W1.heap.size) := Lib.hid HK.out.lt
  have nAK : A ≠ K := by have := HA1.out.lt; omega
  have nRK : R ≠ K := by have := HR1.out.lt; omega
  have KW := Lib.hid Kw
  clear hBK Kw td wtd
  go_wp2_with (fail)
  go_loopw [6] (fun iv wr => ∃ (k t : Nat) (p3 : Option Addr) (c3 : Nat), k ≤ h ∧ Hid (t = k * h) ∧ iv = .int .i64 k ∧ Hid (Own K [.int .i64 h, .slice p3 t c3] wr) ∧ Hid (wr.ownsRow W1.heap.size 50 3 (.slice p3 t c3) t (nums .i64 G (t * 3))) ∧ Hid (Below w1.heap.size w1 wr) ∧ Hid (W1.heap.size ≤ wr.heap.size)) (fun iv _ => (h - (intOf iv).toNat))
  case atStart => exact ⟨0, 0, none, 0, Nat.zero_le _, Lib.hid (Nat.zero_mul _).symm, rfl, HK, Lib.hid (World.ownsRow_nil _ _ _ _), HX, Lib.hid (Nat.le_refl _)⟩
  case round =>
    clear HK HX
    obtain ⟨k, t, p3, c3, hk, HT, rfl, HK, ROW, HX, HZ⟩ := hrel
    by_cases hlt : k < h
    · have hki : (k : Int) < (h : Int) := by omega
      have k0 : (0 : Int) ≤ (k : Int) := by omega
      have wk : IntKind.i64.wrap ((k : Int) + 1) = (k : Int) + 1 := IntWalk.i64_in _ (by have := HH8.out; omega)
      have HLT := Lib.hid hlt
      clear hk hlt
      have K0 := HK.out.at 0 _ rfl; have Kl := HK.out.lt
      go_wp2_with (fail)
      clear K0 Kl
      go_loopw [7] (fun iv wr => ∃ (i t : Nat) (p3 : Option Addr) (c3 : Nat), i ≤ h ∧ Hid (t = k * h + i) ∧ iv = .int .i64 i ∧ Hid (Own K [.int .i64 h, .slice p3 t c3] wr) ∧ Hid (wr.ownsRow W1.heap.size 50 3 (.slice p3 t c3) t (nums .i64 G (t * 3))) ∧ Hid (Below w1.heap.size w1 wr) ∧ Hid (W1.heap.size ≤ wr.heap.size)) (fun iv _ => (h - (intOf iv).toNat))
      case atStart => exact ⟨0, t, p3, c3, Nat.zero_le _, Lib.hid (by rw [HT.out]; rfl), rfl, HK, ROW, HX, HZ⟩
      case round =>
        clear HK ROW HX HZ HT
        obtain ⟨i, t, p3, c3, hi_, HT, rfl, HK, ROW, HX, HZ⟩ := hrel
        by_cases hlt : i < h
        · have hxi : (i : Int) < (h : Int) := by omega
          have x0 : (0 : Int) ≤ (i : Int) := by omega
          have wi : IntKind.i64.wrap ((i : Int) + 1) = (i : Int) + 1 := IntWalk.i64_in _ (by have := HH8.out; omega)
          have HLI := Lib.hid hlt
          obtain ⟨x, ex⟩ : ∃ x, x = 2 * i := ⟨_, rfl⟩
          obtain ⟨m, em⟩ : ∃ m, m = 2 * k := ⟨_, rfl⟩
          have wx2 : IntKind.i64.wrap (2 * (i : Int)) = (x : Int) := by rw [IntWalk.i64_in _ (by have := HH8.out; omega)]; omega
          have wm2 : IntKind.i64.wrap (2 * (k : Int)) = (m : Int) := by rw [IntWalk.i64_in _ (by have := HH8.out; have := HLT.out; omega)]; omega
          have wx0 : IntKind.i64.wrap (x : Int) = (x : Int) := IntWalk.i64_in _ (by have := HH8.out; omega)
          have wm0 : IntKind.i64.wrap (m : Int) = (m : Int) := IntWalk.i64_in _ (by have := HH8.out; have := HLT.out; omega)
          have wx1 : IntKind.i64.wrap ((x : Int) + 1) = ((x + 1 : Nat) : Int) := by rw [IntWalk.i64_in _ (by have := HH8.out; omega)]; omega
          have wm1 : IntKind.i64.wrap ((m : Int) + 1) = ((m + 1 : Nat) : Int) := by rw [IntWalk.i64_in _ (by have := HH8.out; have := HLT.out; omega)]; omega
          have Ia : m * sd + x < n := by have := AX.out i k 0 0 HLI.out HLT.out (by decide) (by decide); rw [ex, em]; exact this
          have Ta := Lib.hid (TX.out x m (by have := HE.out; omega) (by have := HE.out; have := HLT.out; omega))
          have Ba0 : in255 (txl f sd x m 0) := TF.out x m 0 Ia (by decide)
          obtain ⟨a0, ea0⟩ : ∃ z, txl f sd x m 0 = z := ⟨_, rfl⟩
          rw [ea0] at Ba0 Ta
          have Ba1 : in255 (txl f sd x m 1) := TF.out x m 1 Ia (by decide)
          obtain ⟨a1, ea1⟩ : ∃ z, txl f sd x m 1 = z := ⟨_, rfl⟩
          rw [ea1] at Ba1 Ta
          have Ba2 : in255 (txl f sd x m 2) := TF.out x m 2 Ia (by decide)
          obtain ⟨a2, ea2⟩ : ∃ z, txl f sd x m 2 = z := ⟨_, rfl⟩
          rw [ea2] at Ba2 Ta
          have Ib : m * sd + (x + 1) < n := by have := AX.out i k 1 0 HLI.out HLT.out (by decide) (by decide); rw [ex, em]; exact this
          have Tb := Lib.hid (TX.out (x + 1) m (by have := HE.out; omega) (by have := HE.out; have := HLT.out; omega))
          have Bb0 : in255 (txl f sd (x + 1) m 0) := TF.out (x + 1) m 0 Ib (by decide)
          obtain ⟨b0, eb0⟩ : ∃ z, txl f sd (x + 1) m 0 = z := ⟨_, rfl⟩
          rw [eb0] at Bb0 Tb
          have Bb1 : in255 (txl f sd (x + 1) m 1) := TF.out (x + 1) m 1 Ib (by decide)
          obtain ⟨b1, eb1⟩ : ∃ z, txl f sd (x + 1) m 1 = z := ⟨_, rfl⟩
          rw [eb1] at Bb1 Tb
          have Bb2 : in255 (txl f sd (x + 1) m 2) := TF.out (x + 1) m 2 Ib (by decide)
          obtain ⟨b2, eb2⟩ : ∃ z, txl f sd (x + 1) m 2 = z := ⟨_, rfl⟩
          rw [eb2] at Bb2 Tb
          have Ic : (m + 1) * sd + x < n := by have := AX.out i k 0 1 HLI.out HLT.out (by decide) (by decide); rw [ex, em]; exact this
          have Tc := Lib.hid (TX.out x (m + 1) (by have := HE.out; omega) (by have := HE.out; have := HLT.out; omega))
          have Bc0 : in255 (txl f sd x (m + 1) 0) := TF.out x (m + 1) 0 Ic (by decide)
          obtain ⟨c0, ec0⟩ : ∃ z, txl f sd x (m + 1) 0 = z := ⟨_, rfl⟩
          rw [ec0] at Bc0 Tc
          have Bc1 : in255 (txl f sd x (m + 1) 1) := TF.out x (m + 1) 1 Ic (by decide)
          obtain ⟨c1, ec1⟩ : ∃ z, txl f sd x (m + 1) 1 = z := ⟨_, rfl⟩
          rw [ec1] at Bc1 Tc
          have Bc2 : in255 (txl f sd x (m + 1) 2) := TF.out x (m + 1) 2 Ic (by decide)
          obtain ⟨c2, ec2⟩ : ∃ z, txl f sd x (m + 1) 2 = z := ⟨_, rfl⟩
          rw [ec2] at Bc2 Tc
          have Id : (m + 1) * sd + (x + 1) < n := by have := AX.out i k 1 1 HLI.out HLT.out (by decide) (by decide); rw [ex, em]; exact this
          have Td := Lib.hid (TX.out (x + 1) (m + 1) (by have := HE.out; omega) (by have := HE.out; have := HLT.out; omega))
          have Bd0 : in255 (txl f sd (x + 1) (m + 1) 0) := TF.out (x + 1) (m + 1) 0 Id (by decide)
          obtain ⟨d0, ed0⟩ : ∃ z, txl f sd (x + 1) (m + 1) 0 = z := ⟨_, rfl⟩
          rw [ed0] at Bd0 Td
          have Bd1 : in255 (txl f sd (x + 1) (m + 1) 1) := TF.out (x + 1) (m + 1) 1 Id (by decide)
          obtain ⟨d1, ed1⟩ : ∃ z, txl f sd (x + 1) (m + 1) 1 = z := ⟨_, rfl⟩
          rw [ed1] at Bd1 Td
          have Bd2 : in255 (txl f sd (x + 1) (m + 1) 2) := TF.out (x + 1) (m + 1) 2 Id (by decide)
          obtain ⟨d2, ed2⟩ : ∃ z, txl f sd (x + 1) (m + 1) 2 = z := ⟨_, rfl⟩
          rw [ed2] at Bd2 Td
          have E0 : G (t * 3 + 0) = meanF a0 b0 c0 d0 := by
            rw [HT.out, GA.out i k 0 HLI.out (by decide)]
            unfold hlfT
            rw [← ea0, ← eb0, ← ec0, ← ed0, ex, em]
          have E1 : G (t * 3 + 1) = meanF a1 b1 c1 d1 := by
            rw [HT.out, GA.out i k 1 HLI.out (by decide)]
            unfold hlfT
            rw [← ea1, ← eb1, ← ec1, ← ed1, ex, em]
          have E2 : G (t * 3 + 2) = meanF a2 b2 c2 d2 := by
            rw [HT.out, GA.out i k 2 HLI.out (by decide)]
            unfold hlfT
            rw [← ea2, ← eb2, ← ec2, ← ed2, ex, em]
          unfold in255 at *
          have p0 : IntKind.i64.wrap a0 = a0 := IntWalk.i64_in _ (by omega)
          have u0_ : IntKind.i64.wrap (a0 + b0) = a0 + b0 := IntWalk.i64_in _ (by omega)
          have v0_ : IntKind.i64.wrap (a0 + b0 + c0) = a0 + b0 + c0 := IntWalk.i64_in _ (by omega)
          have x0_ : IntKind.i64.wrap (a0 + b0 + c0 + d0) = a0 + b0 + c0 + d0 := IntWalk.i64_in _ (by omega)
          have y0_ : IntKind.i64.wrap (a0 + b0 + c0 + d0 + 2) = a0 + b0 + c0 + d0 + 2 := IntWalk.i64_in _ (by omega)
          have t0_ : (a0 + b0 + c0 + d0 + 2).tdiv 4 = meanF a0 b0 c0 d0 := by rw [Int.tdiv_eq_ediv_of_nonneg (by omega)]; rfl
          have z0_ : IntKind.i64.wrap (meanF a0 b0 c0 d0) = meanF a0 b0 c0 d0 := IntWalk.i64_in _ (by unfold meanF; omega)
          obtain ⟨g0, eg0⟩ : ∃ z, meanF a0 b0 c0 d0 = z := ⟨_, rfl⟩
          rw [eg0] at t0_ z0_ E0
          have p1 : IntKind.i64.wrap a1 = a1 := IntWalk.i64_in _ (by omega)
          have u1_ : IntKind.i64.wrap (a1 + b1) = a1 + b1 := IntWalk.i64_in _ (by omega)
          have v1_ : IntKind.i64.wrap (a1 + b1 + c1) = a1 + b1 + c1 := IntWalk.i64_in _ (by omega)
          have x1_ : IntKind.i64.wrap (a1 + b1 + c1 + d1) = a1 + b1 + c1 + d1 := IntWalk.i64_in _ (by omega)
          have y1_ : IntKind.i64.wrap (a1 + b1 + c1 + d1 + 2) = a1 + b1 + c1 + d1 + 2 := IntWalk.i64_in _ (by omega)
          have t1_ : (a1 + b1 + c1 + d1 + 2).tdiv 4 = meanF a1 b1 c1 d1 := by rw [Int.tdiv_eq_ediv_of_nonneg (by omega)]; rfl
          have z1_ : IntKind.i64.wrap (meanF a1 b1 c1 d1) = meanF a1 b1 c1 d1 := IntWalk.i64_in _ (by unfold meanF; omega)
          obtain ⟨g1, eg1⟩ : ∃ z, meanF a1 b1 c1 d1 = z := ⟨_, rfl⟩
          rw [eg1] at t1_ z1_ E1
          have p2 : IntKind.i64.wrap a2 = a2 := IntWalk.i64_in _ (by omega)
          have u2_ : IntKind.i64.wrap (a2 + b2) = a2 + b2 := IntWalk.i64_in _ (by omega)
          have v2_ : IntKind.i64.wrap (a2 + b2 + c2) = a2 + b2 + c2 := IntWalk.i64_in _ (by omega)
          have x2_ : IntKind.i64.wrap (a2 + b2 + c2 + d2) = a2 + b2 + c2 + d2 := IntWalk.i64_in _ (by omega)
          have y2_ : IntKind.i64.wrap (a2 + b2 + c2 + d2 + 2) = a2 + b2 + c2 + d2 + 2 := IntWalk.i64_in _ (by omega)
          have t2_ : (a2 + b2 + c2 + d2 + 2).tdiv 4 = meanF a2 b2 c2 d2 := by rw [Int.tdiv_eq_ediv_of_nonneg (by omega)]; rfl
          have z2_ : IntKind.i64.wrap (meanF a2 b2 c2 d2) = meanF a2 b2 c2 d2 := IntWalk.i64_in _ (by unfold meanF; omega)
          obtain ⟨g2, eg2⟩ : ∃ z, meanF a2 b2 c2 d2 = z := ⟨_, rfl⟩
          rw [eg2] at t2_ z2_ E2
          have XS : Hid (nums .i64 G (t * 3) ++ [.int .i64 g0, .int .i64 g1, .int .i64 g2] = nums .i64 G ((t + 1) * 3)) := Lib.hid (by
            rw [show (t + 1) * 3 = t * 3 + 3 by omega]
            refine nums_append .i64 G (fun j => [g0, g1, g2].getD j 0) (t * 3) 3 (fun j hj => ?_)
            match j, hj with
            | 0, _ => exact E0
            | 1, _ => exact E1
            | 2, _ => exact E2)
          have T64 : t ≤ 64 := by
            have h1 := ix_lt HLI.out HLT.out
            have h2 : h * h ≤ 64 := Nat.mul_le_mul HH8.out HH8.out
            have h3 := HT.out
            omega
          have N63 := Lib.hid (show t + 1 ≤ maxLen by unfold maxLen; omega)
          have NBY := Lib.hid (show (t + 1) * 24 ≤ 140737488355328 by omega)
          clear T64 Ia Ib Ic Id ea0 Ba0 ea1 Ba1 ea2 Ba2 eb0 Bb0 eb1 Bb1 eb2 Bb2 ec0 Bc0 ec1 Bc1 ec2 Bc2 ed0 Bd0 ed1 Bd1 ed2 Bd2 E0 E1 E2 eg0 eg1 eg2 AX hlt hi_ ex em
          have K0 := HK.out.at 0 _ rfl; have Kl := HK.out.lt
          go_upto_region 14 with fail
          clear K0 Kl
          obtain ⟨z0, hW⟩ : ∃ z0, z0 = (wr.alloc (.cells #[.int .i64 0, .int .i64 0, .int .i64 0] 50)) := ⟨_, rfl⟩
          have hBz : Below wr.heap.size wr z0 := hW ▸ (Below.al (Below.refl _ _))
          have HZS : Hid (Own wr.heap.size [.int .i64 0, .int .i64 0, .int .i64 0] z0) := Lib.hid (hW ▸ (Own.newAt (by simp)))
          rw [← hW]
          clear hW
          obtain ⟨Z, eZ⟩ : ∃ X, X = wr.heap.size := ⟨_, rfl⟩
          rw [← eZ] at HZS ⊢
          have Zw : wr.heap.size ≤ Z := by omega
          clear eZ
          have HKz := Lib.hid (HK.out.later hBz); have ROWz := Lib.hid (row_later ROW.out hBz)
          have HXz := Lib.hid (Below.go HX.out hBz)
          have neZ : Hid ((Value.slice p3 t c3).ownBlock ≠ some Z) := Lib.hid (row_new ROW.out Zw)
          have nKZ : K ≠ Z := by have := HK.out.lt; omega
          have ZW : Hid (w1.heap.size ≤ Z) := Lib.hid (by have := HX.out.size; omega)
          have HZ_ : Hid (W1.heap.size ≤ z0.heap.size) := Lib.hid (Nat.le_trans HZ.out hBz.size)
          have BZ := Lib.hid (But.refl Z z0)
          clear hBz HK ROW HX HZ Zw
          go_wp2_with (fail)
          refine wp_loop_rounds 5 ?_
          rw [rounds_succ]
          have hx := HXz.out.trans (BZ.out.below.mono ZW.out)
          have A0 := (HA1.out.later hx).at 0 _ rfl; have A1 := (HA1.out.later hx).at 1 _ rfl; have Al := (HA1.out.later hx).lt
          go_wp2_with (fail)
          go_at_call 23
          refine (Ta.out _ (HT1.out.later hx)).mono ?_
          rintro e r0 ⟨rfl, hb⟩
          have BZ_ := Lib.hid (BZ.out.trans (But.of hb HZS.out.lt)); have HZS_ := Lib.hid (HZS.out.later hb)
          clear hb hx A0 A1 Al BZ HZS Ta
          have BZ := BZ_; have HZS := HZS_
          clear BZ_ HZS_
          go_wp2_with (fail)
          obtain ⟨q0, hW⟩ : ∃ q0, q0 = (r0.alloc (.cells #[.int .i64 a0, .int .i64 a1, .int .i64 a2] 50)) := ⟨_, rfl⟩
          have hBc : Below r0.heap.size r0 q0 := hW ▸ (Below.al (Below.refl _ _))
          have HC : Hid (Own r0.heap.size [.int .i64 a0, .int .i64 a1, .int .i64 a2] q0) := Lib.hid (hW ▸ (Own.newAt (by simp)))
          rw [← hW]
          clear hW
          obtain ⟨C, eC⟩ : ∃ X, X = r0.heap.size := ⟨_, rfl⟩
          rw [← eC] at HC ⊢
          have Cw : r0.heap.size ≤ C := by omega
          clear eC
          have nZC : Z ≠ C := by have := HZS.out.lt; omega
          have nCZ : C ≠ Z := Ne.symm nZC
          have BZ_ := Lib.hid (BZ.out.trans (But.of hBc HZS.out.lt)); have HZS_ := Lib.hid (HZS.out.later hBc)
          clear hBc Cw BZ HZS
          have BZ := BZ_; have HZS := HZS_
          clear BZ_ HZS_
          refine wp_loop_rounds 4 ?_
          rw [rounds_succ]
          have Z0 := HZS.out.at 0 _ rfl; have Zf0 := HZS.out.ok 0 (by simp); have Zl := HZS.out.lt
          have C0 := HC.out.at 0 _ rfl; have Cl := HC.out.lt
          go_wp2_with (fail)
          refine wp_region_still_tail 9 (by kernel_rfl) (by kernel_rfl) ?_; simp only [List.take_succ_cons, List.take_zero, List.drop_succ_cons, List.drop_zero]; change wpStill _ _ (World.drew _) (fun a1 => wpList _ _ _ _ a1 (World.drew _)) _ _; repeat still_step
          refine wpStill_nil ?_
          go_wp2_with (fail)
          clear Z0 Zf0 Zl C0 Cl
          rw [show (q0.setCell ⟨Z, 0, none⟩ (.int .i64 (a0))).drew = (q0.setCells Z 0 [.int .i64 (a0)]).drew from rfl]
          have HZS_ : Hid (Own Z [.int .i64 (a0), .int .i64 (0), .int .i64 (0)] (q0.setCells Z 0 [.int .i64 (a0)]).drew) := Lib.hid (show Own Z (over _ 0 [.int .i64 (a0)]) _ from (Own.part HZS.out (by simp)).drew)
          have HC_ := Lib.hid (Own.far (o := 0) (vs := [.int .i64 (a0)]) HC.out nCZ).drew
          have BZ_ := Lib.hid ((BZ.out.trans (But.store (o := 0) (vs := [.int .i64 (a0)]))).trans (But.drew HZS_.out.lt))
          clear HZS HC BZ
          generalize (q0.setCells Z 0 [.int .i64 (a0)]).drew = s00 at *
          have BZ := BZ_; have HZS := HZS_; have HC := HC_
          clear BZ_ HZS_ HC_
          rw [rounds_succ]
          have Z1 := HZS.out.at 1 _ rfl; have Zf1 := HZS.out.ok 1 (by simp); have Zl := HZS.out.lt
          have C1 := HC.out.at 1 _ rfl; have Cl := HC.out.lt
          go_wp2_with (fail)
          refine wp_region_still_tail 9 (by kernel_rfl) (by kernel_rfl) ?_; simp only [List.take_succ_cons, List.take_zero, List.drop_succ_cons, List.drop_zero]; change wpStill _ _ (World.drew _) (fun a1 => wpList _ _ _ _ a1 (World.drew _)) _ _; repeat still_step
          refine wpStill_nil ?_
          go_wp2_with (fail)
          clear Z1 Zf1 Zl C1 Cl
          rw [show (s00.setCell ⟨Z, 1, none⟩ (.int .i64 (a1))).drew = (s00.setCells Z 1 [.int .i64 (a1)]).drew from rfl]
          have HZS_ : Hid (Own Z [.int .i64 (a0), .int .i64 (a1), .int .i64 (0)] (s00.setCells Z 1 [.int .i64 (a1)]).drew) := Lib.hid (show Own Z (over _ 1 [.int .i64 (a1)]) _ from (Own.part HZS.out (by simp)).drew)
          have HC_ := Lib.hid (Own.far (o := 1) (vs := [.int .i64 (a1)]) HC.out nCZ).drew
          have BZ_ := Lib.hid ((BZ.out.trans (But.store (o := 1) (vs := [.int .i64 (a1)]))).trans (But.drew HZS_.out.lt))
          clear HZS HC BZ
          generalize (s00.setCells Z 1 [.int .i64 (a1)]).drew = s01 at *
          have BZ := BZ_; have HZS := HZS_; have HC := HC_
          clear BZ_ HZS_ HC_
          rw [rounds_succ]
          have Z2 := HZS.out.at 2 _ rfl; have Zf2 := HZS.out.ok 2 (by simp); have Zl := HZS.out.lt
          have C2 := HC.out.at 2 _ rfl; have Cl := HC.out.lt
          go_wp2_with (fail)
          refine wp_region_still_tail 9 (by kernel_rfl) (by kernel_rfl) ?_; simp only [List.take_succ_cons, List.take_zero, List.drop_succ_cons, List.drop_zero]; change wpStill _ _ (World.drew _) (fun a1 => wpList _ _ _ _ a1 (World.drew _)) _ _; repeat still_step
          refine wpStill_nil ?_
          go_wp2_with (fail)
          clear Z2 Zf2 Zl C2 Cl
          rw [show (s01.setCell ⟨Z, 2, none⟩ (.int .i64 (a2))).drew = (s01.setCells Z 2 [.int .i64 (a2)]).drew from rfl]
          have HZS_ : Hid (Own Z [.int .i64 (a0), .int .i64 (a1), .int .i64 (a2)] (s01.setCells Z 2 [.int .i64 (a2)]).drew) := Lib.hid (show Own Z (over _ 2 [.int .i64 (a2)]) _ from (Own.part HZS.out (by simp)).drew)
          have HC_ := Lib.hid (Own.far (o := 2) (vs := [.int .i64 (a2)]) HC.out nCZ).drew
          have BZ_ := Lib.hid ((BZ.out.trans (But.store (o := 2) (vs := [.int .i64 (a2)]))).trans (But.drew HZS_.out.lt))
          clear HZS HC BZ
          generalize (s01.setCells Z 2 [.int .i64 (a2)]).drew = s02 at *
          have BZ := BZ_; have HZS := HZS_; have HC := HC_
          clear BZ_ HZS_ HC_
          rw [rounds_succ]
          go_wp2_with (fail)
          clear HC nZC nCZ
          rw [rounds_succ]
          have hx := HXz.out.trans (BZ.out.below.mono ZW.out)
          have A0 := (HA1.out.later hx).at 0 _ rfl; have A1 := (HA1.out.later hx).at 1 _ rfl; have Al := (HA1.out.later hx).lt
          go_wp2_with (fail)
          go_at_call 23
          refine (Tb.out _ (HT1.out.later hx)).mono ?_
          rintro e r1 ⟨rfl, hb⟩
          have BZ_ := Lib.hid (BZ.out.trans (But.of hb HZS.out.lt)); have HZS_ := Lib.hid (HZS.out.later hb)
          clear hb hx A0 A1 Al BZ HZS Tb
          have BZ := BZ_; have HZS := HZS_
          clear BZ_ HZS_
          go_wp2_with (fail)
          obtain ⟨q1, hW⟩ : ∃ q1, q1 = (r1.alloc (.cells #[.int .i64 b0, .int .i64 b1, .int .i64 b2] 50)) := ⟨_, rfl⟩
          have hBc : Below r1.heap.size r1 q1 := hW ▸ (Below.al (Below.refl _ _))
          have HC : Hid (Own r1.heap.size [.int .i64 b0, .int .i64 b1, .int .i64 b2] q1) := Lib.hid (hW ▸ (Own.newAt (by simp)))
          rw [← hW]
          clear hW
          obtain ⟨C, eC⟩ : ∃ X, X = r1.heap.size := ⟨_, rfl⟩
          rw [← eC] at HC ⊢
          have Cw : r1.heap.size ≤ C := by omega
          clear eC
          have nZC : Z ≠ C := by have := HZS.out.lt; omega
          have nCZ : C ≠ Z := Ne.symm nZC
          have BZ_ := Lib.hid (BZ.out.trans (But.of hBc HZS.out.lt)); have HZS_ := Lib.hid (HZS.out.later hBc)
          clear hBc Cw BZ HZS
          have BZ := BZ_; have HZS := HZS_
          clear BZ_ HZS_
          refine wp_loop_rounds 4 ?_
          rw [rounds_succ]
          have Z0 := HZS.out.at 0 _ rfl; have Zf0 := HZS.out.ok 0 (by simp); have Zl := HZS.out.lt
          have C0 := HC.out.at 0 _ rfl; have Cl := HC.out.lt
          go_wp2_with (fail)
          refine wp_region_still_tail 9 (by kernel_rfl) (by kernel_rfl) ?_; simp only [List.take_succ_cons, List.take_zero, List.drop_succ_cons, List.drop_zero]; change wpStill _ _ (World.drew _) (fun a1 => wpList _ _ _ _ a1 (World.drew _)) _ _; repeat still_step
          refine wpStill_nil ?_
          go_wp2_with (fail)
          clear Z0 Zf0 Zl C0 Cl
          rw [show (q1.setCell ⟨Z, 0, none⟩ (.int .i64 (a0 + b0))).drew = (q1.setCells Z 0 [.int .i64 (a0 + b0)]).drew from rfl]
          have HZS_ : Hid (Own Z [.int .i64 (a0 + b0), .int .i64 (a1), .int .i64 (a2)] (q1.setCells Z 0 [.int .i64 (a0 + b0)]).drew) := Lib.hid (show Own Z (over _ 0 [.int .i64 (a0 + b0)]) _ from (Own.part HZS.out (by simp)).drew)
          have HC_ := Lib.hid (Own.far (o := 0) (vs := [.int .i64 (a0 + b0)]) HC.out nCZ).drew
          have BZ_ := Lib.hid ((BZ.out.trans (But.store (o := 0) (vs := [.int .i64 (a0 + b0)]))).trans (But.drew HZS_.out.lt))
          clear HZS HC BZ
          generalize (q1.setCells Z 0 [.int .i64 (a0 + b0)]).drew = s10 at *
          have BZ := BZ_; have HZS := HZS_; have HC := HC_
          clear BZ_ HZS_ HC_
          rw [rounds_succ]
          have Z1 := HZS.out.at 1 _ rfl; have Zf1 := HZS.out.ok 1 (by simp); have Zl := HZS.out.lt
          have C1 := HC.out.at 1 _ rfl; have Cl := HC.out.lt
          go_wp2_with (fail)
          refine wp_region_still_tail 9 (by kernel_rfl) (by kernel_rfl) ?_; simp only [List.take_succ_cons, List.take_zero, List.drop_succ_cons, List.drop_zero]; change wpStill _ _ (World.drew _) (fun a1 => wpList _ _ _ _ a1 (World.drew _)) _ _; repeat still_step
          refine wpStill_nil ?_
          go_wp2_with (fail)
          clear Z1 Zf1 Zl C1 Cl
          rw [show (s10.setCell ⟨Z, 1, none⟩ (.int .i64 (a1 + b1))).drew = (s10.setCells Z 1 [.int .i64 (a1 + b1)]).drew from rfl]
          have HZS_ : Hid (Own Z [.int .i64 (a0 + b0), .int .i64 (a1 + b1), .int .i64 (a2)] (s10.setCells Z 1 [.int .i64 (a1 + b1)]).drew) := Lib.hid (show Own Z (over _ 1 [.int .i64 (a1 + b1)]) _ from (Own.part HZS.out (by simp)).drew)
          have HC_ := Lib.hid (Own.far (o := 1) (vs := [.int .i64 (a1 + b1)]) HC.out nCZ).drew
          have BZ_ := Lib.hid ((BZ.out.trans (But.store (o := 1) (vs := [.int .i64 (a1 + b1)]))).trans (But.drew HZS_.out.lt))
          clear HZS HC BZ
          generalize (s10.setCells Z 1 [.int .i64 (a1 + b1)]).drew = s11 at *
          have BZ := BZ_; have HZS := HZS_; have HC := HC_
          clear BZ_ HZS_ HC_
          rw [rounds_succ]
          have Z2 := HZS.out.at 2 _ rfl; have Zf2 := HZS.out.ok 2 (by simp); have Zl := HZS.out.lt
          have C2 := HC.out.at 2 _ rfl; have Cl := HC.out.lt
          go_wp2_with (fail)
          refine wp_region_still_tail 9 (by kernel_rfl) (by kernel_rfl) ?_; simp only [List.take_succ_cons, List.take_zero, List.drop_succ_cons, List.drop_zero]; change wpStill _ _ (World.drew _) (fun a1 => wpList _ _ _ _ a1 (World.drew _)) _ _; repeat still_step
          refine wpStill_nil ?_
          go_wp2_with (fail)
          clear Z2 Zf2 Zl C2 Cl
          rw [show (s11.setCell ⟨Z, 2, none⟩ (.int .i64 (a2 + b2))).drew = (s11.setCells Z 2 [.int .i64 (a2 + b2)]).drew from rfl]
          have HZS_ : Hid (Own Z [.int .i64 (a0 + b0), .int .i64 (a1 + b1), .int .i64 (a2 + b2)] (s11.setCells Z 2 [.int .i64 (a2 + b2)]).drew) := Lib.hid (show Own Z (over _ 2 [.int .i64 (a2 + b2)]) _ from (Own.part HZS.out (by simp)).drew)
          have HC_ := Lib.hid (Own.far (o := 2) (vs := [.int .i64 (a2 + b2)]) HC.out nCZ).drew
          have BZ_ := Lib.hid ((BZ.out.trans (But.store (o := 2) (vs := [.int .i64 (a2 + b2)]))).trans (But.drew HZS_.out.lt))
          clear HZS HC BZ
          generalize (s11.setCells Z 2 [.int .i64 (a2 + b2)]).drew = s12 at *
          have BZ := BZ_; have HZS := HZS_; have HC := HC_
          clear BZ_ HZS_ HC_
          rw [rounds_succ]
          go_wp2_with (fail)
          clear HC nZC nCZ
          rw [rounds_succ]
          have hx := HXz.out.trans (BZ.out.below.mono ZW.out)
          have A0 := (HA1.out.later hx).at 0 _ rfl; have A1 := (HA1.out.later hx).at 1 _ rfl; have Al := (HA1.out.later hx).lt
          go_wp2_with (fail)
          go_at_call 23
          refine (Tc.out _ (HT1.out.later hx)).mono ?_
          rintro e r2 ⟨rfl, hb⟩
          have BZ_ := Lib.hid (BZ.out.trans (But.of hb HZS.out.lt)); have HZS_ := Lib.hid (HZS.out.later hb)
          clear hb hx A0 A1 Al BZ HZS Tc
          have BZ := BZ_; have HZS := HZS_
          clear BZ_ HZS_
          go_wp2_with (fail)
          obtain ⟨q2, hW⟩ : ∃ q2, q2 = (r2.alloc (.cells #[.int .i64 c0, .int .i64 c1, .int .i64 c2] 50)) := ⟨_, rfl⟩
          have hBc : Below r2.heap.size r2 q2 := hW ▸ (Below.al (Below.refl _ _))
          have HC : Hid (Own r2.heap.size [.int .i64 c0, .int .i64 c1, .int .i64 c2] q2) := Lib.hid (hW ▸ (Own.newAt (by simp)))
          rw [← hW]
          clear hW
          obtain ⟨C, eC⟩ : ∃ X, X = r2.heap.size := ⟨_, rfl⟩
          rw [← eC] at HC ⊢
          have Cw : r2.heap.size ≤ C := by omega
          clear eC
          have nZC : Z ≠ C := by have := HZS.out.lt; omega
          have nCZ : C ≠ Z := Ne.symm nZC
          have BZ_ := Lib.hid (BZ.out.trans (But.of hBc HZS.out.lt)); have HZS_ := Lib.hid (HZS.out.later hBc)
          clear hBc Cw BZ HZS
          have BZ := BZ_; have HZS := HZS_
          clear BZ_ HZS_
          refine wp_loop_rounds 4 ?_
          rw [rounds_succ]
          have Z0 := HZS.out.at 0 _ rfl; have Zf0 := HZS.out.ok 0 (by simp); have Zl := HZS.out.lt
          have C0 := HC.out.at 0 _ rfl; have Cl := HC.out.lt
          go_wp2_with (fail)
          refine wp_region_still_tail 9 (by kernel_rfl) (by kernel_rfl) ?_; simp only [List.take_succ_cons, List.take_zero, List.drop_succ_cons, List.drop_zero]; change wpStill _ _ (World.drew _) (fun a1 => wpList _ _ _ _ a1 (World.drew _)) _ _; repeat still_step
          refine wpStill_nil ?_
          go_wp2_with (fail)
          clear Z0 Zf0 Zl C0 Cl
          rw [show (q2.setCell ⟨Z, 0, none⟩ (.int .i64 (a0 + b0 + c0))).drew = (q2.setCells Z 0 [.int .i64 (a0 + b0 + c0)]).drew from rfl]
          have HZS_ : Hid (Own Z [.int .i64 (a0 + b0 + c0), .int .i64 (a1 + b1), .int .i64 (a2 + b2)] (q2.setCells Z 0 [.int .i64 (a0 + b0 + c0)]).drew) := Lib.hid (show Own Z (over _ 0 [.int .i64 (a0 + b0 + c0)]) _ from (Own.part HZS.out (by simp)).drew)
          have HC_ := Lib.hid (Own.far (o := 0) (vs := [.int .i64 (a0 + b0 + c0)]) HC.out nCZ).drew
          have BZ_ := Lib.hid ((BZ.out.trans (But.store (o := 0) (vs := [.int .i64 (a0 + b0 + c0)]))).trans (But.drew HZS_.out.lt))
          clear HZS HC BZ
          generalize (q2.setCells Z 0 [.int .i64 (a0 + b0 + c0)]).drew = s20 at *
          have BZ := BZ_; have HZS := HZS_; have HC := HC_
          clear BZ_ HZS_ HC_
          rw [rounds_succ]
          have Z1 := HZS.out.at 1 _ rfl; have Zf1 := HZS.out.ok 1 (by simp); have Zl := HZS.out.lt
          have C1 := HC.out.at 1 _ rfl; have Cl := HC.out.lt
          go_wp2_with (fail)
          refine wp_region_still_tail 9 (by kernel_rfl) (by kernel_rfl) ?_; simp only [List.take_succ_cons, List.take_zero, List.drop_succ_cons, List.drop_zero]; change wpStill _ _ (World.drew _) (fun a1 => wpList _ _ _ _ a1 (World.drew _)) _ _; repeat still_step
          refine wpStill_nil ?_
          go_wp2_with (fail)
          clear Z1 Zf1 Zl C1 Cl
          rw [show (s20.setCell ⟨Z, 1, none⟩ (.int .i64 (a1 + b1 + c1))).drew = (s20.setCells Z 1 [.int .i64 (a1 + b1 + c1)]).drew from rfl]
          have HZS_ : Hid (Own Z [.int .i64 (a0 + b0 + c0), .int .i64 (a1 + b1 + c1), .int .i64 (a2 + b2)] (s20.setCells Z 1 [.int .i64 (a1 + b1 + c1)]).drew) := Lib.hid (show Own Z (over _ 1 [.int .i64 (a1 + b1 + c1)]) _ from (Own.part HZS.out (by simp)).drew)
          have HC_ := Lib.hid (Own.far (o := 1) (vs := [.int .i64 (a1 + b1 + c1)]) HC.out nCZ).drew
          have BZ_ := Lib.hid ((BZ.out.trans (But.store (o := 1) (vs := [.int .i64 (a1 + b1 + c1)]))).trans (But.drew HZS_.out.lt))
          clear HZS HC BZ
          generalize (s20.setCells Z 1 [.int .i64 (a1 + b1 + c1)]).drew = s21 at *
          have BZ := BZ_; have HZS := HZS_; have HC := HC_
          clear BZ_ HZS_ HC_
          rw [rounds_succ]
          have Z2 := HZS.out.at 2 _ rfl; have Zf2 := HZS.out.ok 2 (by simp); have Zl := HZS.out.lt
          have C2 := HC.out.at 2 _ rfl; have Cl := HC.out.lt
          go_wp2_with (fail)
          refine wp_region_still_tail 9 (by kernel_rfl) (by kernel_rfl) ?_; simp only [List.take_succ_cons, List.take_zero, List.drop_succ_cons, List.drop_zero]; change wpStill _ _ (World.drew _) (fun a1 => wpList _ _ _ _ a1 (World.drew _)) _ _; repeat still_step
          refine wpStill_nil ?_
          go_wp2_with (fail)
          clear Z2 Zf2 Zl C2 Cl
          rw [show (s21.setCell ⟨Z, 2, none⟩ (.int .i64 (a2 + b2 + c2))).drew = (s21.setCells Z 2 [.int .i64 (a2 + b2 + c2)]).drew from rfl]
          have HZS_ : Hid (Own Z [.int .i64 (a0 + b0 + c0), .int .i64 (a1 + b1 + c1), .int .i64 (a2 + b2 + c2)] (s21.setCells Z 2 [.int .i64 (a2 + b2 + c2)]).drew) := Lib.hid (show Own Z (over _ 2 [.int .i64 (a2 + b2 + c2)]) _ from (Own.part HZS.out (by simp)).drew)
          have HC_ := Lib.hid (Own.far (o := 2) (vs := [.int .i64 (a2 + b2 + c2)]) HC.out nCZ).drew
          have BZ_ := Lib.hid ((BZ.out.trans (But.store (o := 2) (vs := [.int .i64 (a2 + b2 + c2)]))).trans (But.drew HZS_.out.lt))
          clear HZS HC BZ
          generalize (s21.setCells Z 2 [.int .i64 (a2 + b2 + c2)]).drew = s22 at *
          have BZ := BZ_; have HZS := HZS_; have HC := HC_
          clear BZ_ HZS_ HC_
          rw [rounds_succ]
          go_wp2_with (fail)
          clear HC nZC nCZ
          rw [rounds_succ]
          have hx := HXz.out.trans (BZ.out.below.mono ZW.out)
          have A0 := (HA1.out.later hx).at 0 _ rfl; have A1 := (HA1.out.later hx).at 1 _ rfl; have Al := (HA1.out.later hx).lt
          go_wp2_with (fail)
          go_at_call 23
          refine (Td.out _ (HT1.out.later hx)).mono ?_
          rintro e r3 ⟨rfl, hb⟩
          have BZ_ := Lib.hid (BZ.out.trans (But.of hb HZS.out.lt)); have HZS_ := Lib.hid (HZS.out.later hb)
          clear hb hx A0 A1 Al BZ HZS Td
          have BZ := BZ_; have HZS := HZS_
          clear BZ_ HZS_
          go_wp2_with (fail)
          obtain ⟨q3, hW⟩ : ∃ q3, q3 = (r3.alloc (.cells #[.int .i64 d0, .int .i64 d1, .int .i64 d2] 50)) := ⟨_, rfl⟩
          have hBc : Below r3.heap.size r3 q3 := hW ▸ (Below.al (Below.refl _ _))
          have HC : Hid (Own r3.heap.size [.int .i64 d0, .int .i64 d1, .int .i64 d2] q3) := Lib.hid (hW ▸ (Own.newAt (by simp)))
          rw [← hW]
          clear hW
          obtain ⟨C, eC⟩ : ∃ X, X = r3.heap.size := ⟨_, rfl⟩
          rw [← eC] at HC ⊢
          have Cw : r3.heap.size ≤ C := by omega
          clear eC
          have nZC : Z ≠ C := by have := HZS.out.lt; omega
          have nCZ : C ≠ Z := Ne.symm nZC
          have BZ_ := Lib.hid (BZ.out.trans (But.of hBc HZS.out.lt)); have HZS_ := Lib.hid (HZS.out.later hBc)
          clear hBc Cw BZ HZS
          have BZ := BZ_; have HZS := HZS_
          clear BZ_ HZS_
          refine wp_loop_rounds 4 ?_
          rw [rounds_succ]
          have Z0 := HZS.out.at 0 _ rfl; have Zf0 := HZS.out.ok 0 (by simp); have Zl := HZS.out.lt
          have C0 := HC.out.at 0 _ rfl; have Cl := HC.out.lt
          go_wp2_with (fail)
          refine wp_region_still_tail 9 (by kernel_rfl) (by kernel_rfl) ?_; simp only [List.take_succ_cons, List.take_zero, List.drop_succ_cons, List.drop_zero]; change wpStill _ _ (World.drew _) (fun a1 => wpList _ _ _ _ a1 (World.drew _)) _ _; repeat still_step
          refine wpStill_nil ?_
          go_wp2_with (fail)
          clear Z0 Zf0 Zl C0 Cl
          rw [show (q3.setCell ⟨Z, 0, none⟩ (.int .i64 (a0 + b0 + c0 + d0))).drew = (q3.setCells Z 0 [.int .i64 (a0 + b0 + c0 + d0)]).drew from rfl]
          have HZS_ : Hid (Own Z [.int .i64 (a0 + b0 + c0 + d0), .int .i64 (a1 + b1 + c1), .int .i64 (a2 + b2 + c2)] (q3.setCells Z 0 [.int .i64 (a0 + b0 + c0 + d0)]).drew) := Lib.hid (show Own Z (over _ 0 [.int .i64 (a0 + b0 + c0 + d0)]) _ from (Own.part HZS.out (by simp)).drew)
          have HC_ := Lib.hid (Own.far (o := 0) (vs := [.int .i64 (a0 + b0 + c0 + d0)]) HC.out nCZ).drew
          have BZ_ := Lib.hid ((BZ.out.trans (But.store (o := 0) (vs := [.int .i64 (a0 + b0 + c0 + d0)]))).trans (But.drew HZS_.out.lt))
          clear HZS HC BZ
          generalize (q3.setCells Z 0 [.int .i64 (a0 + b0 + c0 + d0)]).drew = s30 at *
          have BZ := BZ_; have HZS := HZS_; have HC := HC_
          clear BZ_ HZS_ HC_
          rw [rounds_succ]
          have Z1 := HZS.out.at 1 _ rfl; have Zf1 := HZS.out.ok 1 (by simp); have Zl := HZS.out.lt
          have C1 := HC.out.at 1 _ rfl; have Cl := HC.out.lt
          go_wp2_with (fail)
          refine wp_region_still_tail 9 (by kernel_rfl) (by kernel_rfl) ?_; simp only [List.take_succ_cons, List.take_zero, List.drop_succ_cons, List.drop_zero]; change wpStill _ _ (World.drew _) (fun a1 => wpList _ _ _ _ a1 (World.drew _)) _ _; repeat still_step
          refine wpStill_nil ?_
          go_wp2_with (fail)
          clear Z1 Zf1 Zl C1 Cl
          rw [show (s30.setCell ⟨Z, 1, none⟩ (.int .i64 (a1 + b1 + c1 + d1))).drew = (s30.setCells Z 1 [.int .i64 (a1 + b1 + c1 + d1)]).drew from rfl]
          have HZS_ : Hid (Own Z [.int .i64 (a0 + b0 + c0 + d0), .int .i64 (a1 + b1 + c1 + d1), .int .i64 (a2 + b2 + c2)] (s30.setCells Z 1 [.int .i64 (a1 + b1 + c1 + d1)]).drew) := Lib.hid (show Own Z (over _ 1 [.int .i64 (a1 + b1 + c1 + d1)]) _ from (Own.part HZS.out (by simp)).drew)
          have HC_ := Lib.hid (Own.far (o := 1) (vs := [.int .i64 (a1 + b1 + c1 + d1)]) HC.out nCZ).drew
          have BZ_ := Lib.hid ((BZ.out.trans (But.store (o := 1) (vs := [.int .i64 (a1 + b1 + c1 + d1)]))).trans (But.drew HZS_.out.lt))
          clear HZS HC BZ
          generalize (s30.setCells Z 1 [.int .i64 (a1 + b1 + c1 + d1)]).drew = s31 at *
          have BZ := BZ_; have HZS := HZS_; have HC := HC_
          clear BZ_ HZS_ HC_
          rw [rounds_succ]
          have Z2 := HZS.out.at 2 _ rfl; have Zf2 := HZS.out.ok 2 (by simp); have Zl := HZS.out.lt
          have C2 := HC.out.at 2 _ rfl; have Cl := HC.out.lt
          go_wp2_with (fail)
          refine wp_region_still_tail 9 (by kernel_rfl) (by kernel_rfl) ?_; simp only [List.take_succ_cons, List.take_zero, List.drop_succ_cons, List.drop_zero]; change wpStill _ _ (World.drew _) (fun a1 => wpList _ _ _ _ a1 (World.drew _)) _ _; repeat still_step
          refine wpStill_nil ?_
          go_wp2_with (fail)
          clear Z2 Zf2 Zl C2 Cl
          rw [show (s31.setCell ⟨Z, 2, none⟩ (.int .i64 (a2 + b2 + c2 + d2))).drew = (s31.setCells Z 2 [.int .i64 (a2 + b2 + c2 + d2)]).drew from rfl]
          have HZS_ : Hid (Own Z [.int .i64 (a0 + b0 + c0 + d0), .int .i64 (a1 + b1 + c1 + d1), .int .i64 (a2 + b2 + c2 + d2)] (s31.setCells Z 2 [.int .i64 (a2 + b2 + c2 + d2)]).drew) := Lib.hid (show Own Z (over _ 2 [.int .i64 (a2 + b2 + c2 + d2)]) _ from (Own.part HZS.out (by simp)).drew)
          have HC_ := Lib.hid (Own.far (o := 2) (vs := [.int .i64 (a2 + b2 + c2 + d2)]) HC.out nCZ).drew
          have BZ_ := Lib.hid ((BZ.out.trans (But.store (o := 2) (vs := [.int .i64 (a2 + b2 + c2 + d2)]))).trans (But.drew HZS_.out.lt))
          clear HZS HC BZ
          generalize (s31.setCells Z 2 [.int .i64 (a2 + b2 + c2 + d2)]).drew = s32 at *
          have BZ := BZ_; have HZS := HZS_; have HC := HC_
          clear BZ_ HZS_ HC_
          rw [rounds_succ]
          go_wp2_with (fail)
          clear HC nZC nCZ
          rw [rounds_succ]
          go_wp2_with (fail)
          refine wp_loop_rounds 4 ?_
          rw [rounds_succ]
          have Z0 := HZS.out.at 0 _ rfl; have Zf0 := HZS.out.ok 0 (by simp); have Zl := HZS.out.lt
          go_wp2_with (fail)
          clear Z0 Zf0 Zl
          rw [show s32.setCell ⟨Z, 0, none⟩ (.int .i64 g0) = s32.setCells Z 0 [.int .i64 g0] from rfl]
          have HZS_ : Hid (Own Z [.int .i64 (g0), .int .i64 (a1 + b1 + c1 + d1), .int .i64 (a2 + b2 + c2 + d2)] (s32.setCells Z 0 [.int .i64 g0])) := Lib.hid (show Own Z (over _ 0 [.int .i64 g0]) _ from Own.part HZS.out (by simp))
          have BZ_ := Lib.hid (BZ.out.trans (But.store (o := 0) (vs := [.int .i64 g0])))
          clear HZS BZ
          generalize s32.setCells Z 0 [.int .i64 g0] = t0 at *
          have BZ := BZ_; have HZS := HZS_
          clear BZ_ HZS_
          rw [rounds_succ]
          have Z1 := HZS.out.at 1 _ rfl; have Zf1 := HZS.out.ok 1 (by simp); have Zl := HZS.out.lt
          go_wp2_with (fail)
          clear Z1 Zf1 Zl
          rw [show t0.setCell ⟨Z, 1, none⟩ (.int .i64 g1) = t0.setCells Z 1 [.int .i64 g1] from rfl]
          have HZS_ : Hid (Own Z [.int .i64 (g0), .int .i64 (g1), .int .i64 (a2 + b2 + c2 + d2)] (t0.setCells Z 1 [.int .i64 g1])) := Lib.hid (show Own Z (over _ 1 [.int .i64 g1]) _ from Own.part HZS.out (by simp))
          have BZ_ := Lib.hid (BZ.out.trans (But.store (o := 1) (vs := [.int .i64 g1])))
          clear HZS BZ
          generalize t0.setCells Z 1 [.int .i64 g1] = t1 at *
          have BZ := BZ_; have HZS := HZS_
          clear BZ_ HZS_
          rw [rounds_succ]
          have Z2 := HZS.out.at 2 _ rfl; have Zf2 := HZS.out.ok 2 (by simp); have Zl := HZS.out.lt
          go_wp2_with (fail)
          clear Z2 Zf2 Zl
          rw [show t1.setCell ⟨Z, 2, none⟩ (.int .i64 g2) = t1.setCells Z 2 [.int .i64 g2] from rfl]
          have HZS_ : Hid (Own Z [.int .i64 (g0), .int .i64 (g1), .int .i64 (g2)] (t1.setCells Z 2 [.int .i64 g2])) := Lib.hid (show Own Z (over _ 2 [.int .i64 g2]) _ from Own.part HZS.out (by simp))
          have BZ_ := Lib.hid (BZ.out.trans (But.store (o := 2) (vs := [.int .i64 g2])))
          clear HZS BZ
          generalize t1.setCells Z 2 [.int .i64 g2] = t2 at *
          have BZ := BZ_; have HZS := HZS_
          clear BZ_ HZS_
          rw [rounds_succ]
          have hx := HXz.out.trans (BZ.out.below.mono ZW.out)
          have HK2 := Lib.hid (HKz.out.but BZ.out nKZ); have ROW2 := Lib.hid (row_but ROWz.out BZ.out neZ.out)
          have HX2 := Lib.hid hx
          have HS2 : Hid (W1.heap.size ≤ t2.heap.size) := Lib.hid (Nat.le_trans HZ_.out BZ.out.below.size)
          clear hx HKz ROWz BZ HXz
          have Z0 := HZS.out.at 0 _ rfl; have Z1 := HZS.out.at 1 _ rfl; have Z2 := HZS.out.at 2 _ rfl; have Zl := HZS.out.lt
          have K1 := HK2.out.at 1 _ rfl; have Kf1 := HK2.out.ok 1 (by simp); have Kl := HK2.out.lt
          have HSa : Hid (W1.heap.size ≤ (t2.alloc (.cells #[.int .i64 g0, .int .i64 g1, .int .i64 g2] 50)).heap.size) := Lib.hid (Nat.le_trans HS2.out (Below.al (Below.refl _ _)).size)
          go_wp2_with (at_builtin; refine wpList_append_own _ rfl _ _ 22 rfl W1.heap.size 50 i0 (.agg #[.int .i64 0, .int .i64 0, .int .i64 0]) 3 24 Try.underlying22 hi hz0 hz1 hz2 rfl (by decide) _ t _ rfl (row_later ROW2.out (Below.al (Below.refl _ _))) ⟨t2.heap.size, 0, none⟩ 1 1 [.int .i64 g0, .int .i64 g1, .int .i64 g2] rfl rfl (Own.newAt (by rfl)).news (by simp [Value.oneCell']) N63.out NBY.out HSa.out ?_; intro v' z6 hrow hgr _; obtain ⟨p4, c4, rfl, _⟩ := row_form hrow; have o3 := Lib.hid ((HK2.out.alloc (o := .cells #[.int .i64 g0, .int .i64 g1, .int .i64 g2] 50)).grown hgr (row_ne ROW2.out KL.out)); have o4 := Lib.hid ((Below.al HX2.out).grown hgr (Below.al HX2.out).size fun q hq => Nat.le_trans RB.out (row_ge ROW2.out q hq)); have o5 : Hid (W1.heap.size ≤ z6.heap.size) := Lib.hid (Nat.le_trans HSa.out hgr.size); rw [XS.out] at hrow; have o6 := Lib.hid hrow; have L1 := o3.out.at 1 _ rfl; have Lf1 := o3.out.ok 1 (by simp); have Ll := o3.out.lt; clear hrow hgr)
          clear L1 Lf1 Ll Z0 Z1 Z2 Zl K1 Kf1 Kl HSa
          rw [show z6.setCell ⟨K, 1, none⟩ (.slice p4 (t + 1) c4) = z6.setCells K 1 [.slice p4 (t + 1) c4] from rfl]
          have HK_ : Hid (Own K [.int .i64 h, .slice p4 (t + 1) c4] (z6.setCells K 1 [.slice p4 (t + 1) c4])) := Lib.hid (show Own K (over _ 1 [.slice p4 (t + 1) c4]) _ from Own.part o3.out (by simp))
          have ROW_ := Lib.hid (row_far o6.out (row_ne o6.out KL.out) 1 [.slice p4 (t + 1) c4])
          have HX_ := Lib.hid (Below.setCells o4.out KW.out [.slice p4 (t + 1) c4] 1)
          have HZ2 : Hid (W1.heap.size ≤ (z6.setCells K 1 [.slice p4 (t + 1) c4]).heap.size) := Lib.hid (by rw [size_setCells]; exact o5.out)
          clear o3 o4 o5 o6
          generalize z6.setCells K 1 [.slice p4 (t + 1) c4] = z7 at *
          refine ⟨⟨i + 1, t + 1, p4, c4, HLI.out, Lib.hid (by have := HT.out; omega), by go_num, HK_, ROW_, HX_, HZ2⟩, ?_⟩
          have := HLI.out
          simp [intOf]
          omega
        · obtain rfl : i = h := by omega
          clear hlt hi_
          have K0 := HK.out.at 0 _ rfl; have Kl := HK.out.lt
          go_wp2_with (fail)
          go_roundw
          case rel => (first | exact ⟨k + 1, t, _, _, HLT.out, Lib.hid (by rw [HT.out, Nat.succ_mul]), by go_num, HK, ROW, HX, HZ⟩ | ((repeat apply Exists.intro); exact ⟨⟨k + 1, t, _, _, HLT.out, Lib.hid (by rw [HT.out, Nat.succ_mul]), by go_num, HK, ROW, HX, HZ⟩, rfl⟩))
          case measure => (have := HLT.out; simp [intOf]; omega)
    · obtain rfl : k = h := by omega
      obtain rfl : t = k * k := HT.out
      clear hlt hk
      have K0 := HK.out.at 0 _ rfl; have K1 := HK.out.at 1 _ rfl; have Kl := HK.out.lt
      have HR2 := Lib.hid (HR1.out.later HX.out)
      have R0 := HR2.out.at 0 _ rfl; have Rf0 := HR2.out.ok 0 (by simp); have R1 := HR2.out.at 1 _ rfl; have Rf1 := HR2.out.ok 1 (by simp); have Rl := HR2.out.lt
      go_wp2_with (fail)
      clear R0 Rf0 R1 Rf1 Rl K0 K1 Kl
      rw [show ((wr.setCell ⟨R, 0, none⟩ (.int .i64 k)).setCell ⟨R, 1, none⟩ (.slice p3 (k * k) c3)) = wr.setCells R 0 [.int .i64 k, .slice p3 (k * k) c3] from rfl]
      have RQ := row_far ROW.out (row_ne ROW.out (show R < W1.heap.size by have := HR1.out.lt; have := RB.out; omega)) 0 [.int .i64 k, .slice p3 (k * k) c3]
      have HR5 : Hid (Own R [.int .i64 k, .slice p3 (k * k) c3] (wr.setCells R 0 [.int .i64 k, .slice p3 (k * k) c3])) := Lib.hid (Own.store HR2.out rfl)
      have HB5 : Below w.heap.size w (wr.setCells R 0 [.int .i64 k, .slice p3 (k * k) c3]) := Below.setCells (Below.go HB1.out HX.out) RW.out _ _
      generalize wr.setCells R 0 [.int .i64 k, .slice p3 (k * k) c3] = W5 at *
      have hL := run_loadVar_mid (P := Try.prog) _ R 0 24 [.int .i64 k, .slice p3 (k * k) c3] _ HR5.out.cell Try.underlying24 rfl (by kernel_rfl)
      refine bodyPost_ret (v := .tuple #[.agg ([.int .i64 k, .slice p3 (k * k) c3] : List Value).toArray, .int .i64 0]) ?_ rfl ?_
      · exact res_two Try.results19 rfl hL rfl
      · exact ⟨_, _, rfl, RQ.mono (Nat.le_trans HB1.out.size RB.out), HB5⟩
end Go.Proofs.Ytbhdlpndmbhaiaa
