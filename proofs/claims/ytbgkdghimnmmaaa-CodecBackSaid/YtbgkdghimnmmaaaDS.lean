/- CodecBack: the walk. -/
import Derived.Test.YtbgkdghimnmmaaaDQ
import Derived.Test.YtbgkdghimnmmaaaDH
import Derived.Lib.Hide
import Derived.LoopN
import Derived.LoopTactic
import Derived.Deep.Onto
import Derived.Deep.QuietTactic
import Derived.BigQuiet
namespace Go.Proofs.Ytbgkdghimnmmaaa
set_option linter.unusedVariables false
set_option maxRecDepth 2000
set_option linter.unusedSimpArgs false
open Go.RowKit
attribute [local go_sem] nums_length
attribute [local go_sem ↓ high] sliced_head
theorem putE_w (fit : Nat → Int → Bool) (W n : Nat) (g : Nat → Int) (h1 : 1 ≤ W) (h8 : W ≤ 8) : putE fit (W : Int) n g = if allB (fun k => fit W (g k)) n then 0 else 3 := by
  unfold putE badW
  rw [if_neg (by simp; omega), Int.toNat_natCast]
theorem fitU_8 (x : Int) (h : x ≤ 18446744073709551615) : fitU 8 x = true := by
  have := pw_vals.2.2.2.2.2.2.2
  simp [fitU]; omega
theorem fitS_8 (x : Int) (h : -9223372036854775808 ≤ x ∧ x ≤ 9223372036854775807) : fitS 8 x = true := by
  have := pw_vals.2.2.2.2.2.2.2
  simp [fitS]; omega
/-- numbers without a sign, and behind them numbers with one, in W bytes each -/
def bckF (W n : Nat) (g s : Nat → Int) : Nat → Int := outF (outF (fun _ => 0) 0 W g) (W * n) W s
theorem bck_g (W n : Nat) (g s : Nat → Int) (k i : Nat) (hk : k < n) (hi : i < W) : bckF W n g s (W * k + i) = dg (g k) i := by
  unfold bckF
  have : W * k + i < W * n := by
    have : W * (k + 1) ≤ W * n := Nat.mul_le_mul_left _ hk
    rw [Nat.mul_succ] at this
    omega
  rw [outF_head _ _ _ _ this]
  have e := outF_dg (fun _ => 0) 0 W g k i hi
  rwa [Nat.zero_add] at e
theorem bck_s (W n : Nat) (g s : Nat → Int) (k i : Nat) (hi : i < W) : bckF W n g s (W * (n + k) + i) = dg (s k) i := by
  unfold bckF
  rw [Nat.mul_add]
  exact outF_dg _ _ _ _ k i hi
theorem in_bck (W n : Nat) (g s : Nat → Int) (j : Nat) : inB (bckF W n g s j) := by
  unfold bckF
  exact in_outF _ _ _ _ _ fun i hi => in_outF _ _ _ _ _ fun i hi => absurd hi (Nat.not_lt_zero i)
theorem num_g (W n : Nat) (g s : Nat → Int) (k : Nat) (hk : k < n) (h0 : 0 ≤ g k) (hf : fitU W (g k) = true) : numF (bckF W n g s) (W * k) (W : Int) 0 = g k := by
  unfold numF
  rw [show nxL (W : Int) 0 = W by simp [nxL], leN_congr (g := dg (g k)) (fun j hj => bck_g W n g s k j hk hj), leN_dg, u_back _ _ h0 hf]
theorem int_s (W n : Nat) (g s : Nat → Int) (k : Nat) (h1 : 1 ≤ W) (hf : fitS W (s k) = true) : intF (bckF W n g s) (W * (n + k)) (W : Int) 0 = s k := by
  unfold intF numF
  rw [show nxL (W : Int) 0 = W by simp [nxL], leN_congr (g := dg (s k)) (fun j hj => bck_s W n g s k j hj), leN_dg, sgn_back _ _ h1 hf]
theorem nx_ok (W N at_ : Nat) (h1 : 1 ≤ W) (h8 : W ≤ 8) (h : at_ + W ≤ N) : nxE N at_ 0 (W : Int) 1 8 = 0 ∧ nxA at_ (W : Int) 0 = at_ + W := by
  constructor
  · unfold nxE
    rw [if_neg (by simp), if_neg (by omega), if_neg (by omega)]
  · simp [nxA]
theorem nx_short (W N at_ : Nat) (h1 : 1 ≤ W) (h8 : W ≤ 8) (h : N - at_ < W) : nxE N at_ 0 (W : Int) 1 8 = 4 := by
  unfold nxE
  rw [if_neg (by simp), if_neg (by omega), if_pos (by omega)]

set_option maxHeartbeats 16000000 in
theorem Back_law (g s : Nat → Int) (p q : Option Addr) (wd : Int) (n0 c0 n1 c1 n m : Nat) (e0 : min (n0 : Int) 10 = (n : Int)) (e1 : min (n1 : Int) 10 = (m : Int)) (hg : ∀ k, k < n → 0 ≤ g k ∧ g k ≤ 18446744073709551615) (hs : ∀ k, k < m → -9223372036854775808 ≤ s k ∧ s k ≤ 9223372036854775807)
    (h0 : n0 ≤ c0) (hc0 : c0 ≤ 9223372036854775807) (h1 : n1 ≤ c1) (hc1 : c1 ≤ 9223372036854775807) (w : World) (hp : Nm w .u64 p n g) (hq : Nm w .i64 q m s) :
    Calls Try.prog 5 #[.slice p n0 c0, .slice q n1 c1, .int .i64 wd] w fun e w' => e = .returned (.bool true) ∧ Below w.heap.size w w' := by
  obtain ⟨W, h1W, h8W, eW, a1, a2, b1, b2⟩ := wide_of wd 8 (by decide) (by decide)
  simp only [Int.cast_ofNat_Int] at eW a1 a2 b1 b2
  obtain ⟨t, et⟩ : ∃ t, wd.tmod 8 = t := ⟨_, rfl⟩
  rw [et] at eW a1 a2 b1 b2
  obtain ⟨u, eu⟩ : ∃ s, (t + 8).tmod 8 = s := ⟨_, rfl⟩
  rw [eu] at eW b1 b2
  have r1 : IntKind.i64.wrap t = t := IntWalk.i64_in _ (by omega)
  have r2 : IntKind.i64.wrap (t + 8) = t + 8 := IntWalk.i64_in _ (by omega)
  have r3 : IntKind.i64.wrap u = u := IntWalk.i64_in _ (by omega)
  have r4 : IntKind.i64.wrap (u + 1) = (W : Int) := by rw [eW]; exact IntWalk.i64_in _ (by omega)
  have ni : (n : Int) ≤ (c0 : Int) := by omega
  have mi : (m : Int) ≤ (c1 : Int) := by omega
  have n0_ : (0 : Int) ≤ (n : Int) := by omega
  have m0_ : (0 : Int) ≤ (m : Int) := by omega
  have H1 := Lib.hid h1W; have H8 := Lib.hid h8W; have N10 := Lib.hid (show n ≤ 10 by omega); have M10 := Lib.hid (show m ≤ 10 by omega)
  have HG := Lib.hid hg; have HS := Lib.hid hs
  have HP := Lib.hid hp; have HQ := Lib.hid hq
  have E1 := putE_w fitU W n g h1W h8W
  have E2 := putE_w fitS W m s h1W h8W
  have P1 := Lib.hid (fun w hp => Put_any none p 0 0 n c0 (W : Int) (fun _ => 0) g hg (Nat.le_refl _) (by decide) (by omega) hc0 (by omega) w (.inl rfl) hp)
  rw [E1, Int.toNat_natCast] at P1
  have P2 := Lib.hid (fun b cb (hcb : W * n ≤ cb) (hcx : cb ≤ 9223372036854775807) w hb hq => Signed_any b q (W * n) cb m c1 (W : Int) (outF (fun _ => 0) 0 W g) s hs hcb hcx (by omega) hc1 (by
    have : W * n ≤ 8 * n := Nat.mul_le_mul_right _ h8W
    omega) w hb hq)
  rw [E2, Int.toNat_natCast] at P2
  clear hg hs h0 hc0 h1 hc1 hp hq eW a1 a2 b1 b2 E1 E2 h1W h8W
  cases hU : allB (fun k => fitU W (g k)) n with
  | false =>
    rw [hU] at P1
    rw [show (if false = true then (0 : Int) else 3) = 3 by rfl] at P1
    rw [show putL 0 n (W : Int) 3 = 0 by rfl] at P1
    have W8 : (W : Int) < 8 := by
      have := H8.out
      by_cases h : W = 8
      · subst h
        rw [allB_iff.2 fun k hk => fitU_8 (g k) (HG.out k hk).2] at hU
        cases hU
      · omega
    clear P2 hU
    go_enter Try.func5, Try.ntmps5
    go_wp2_with (fail)
    go_quiet (fail)
    obtain ⟨w3, e3⟩ : ∃ x, x = w.drewN nq := ⟨_, rfl⟩
    have hB0 : Below w.heap.size w w3 := e3 ▸ below_drewN (Below.refl _ _) _
    rw [← e3]
    have HP3 := Lib.hid (HP.out.later hB0)
    clear e3 HP HQ
    go_wp2_with (fail)
    go_at_call 7
    refine (P1.out _ HP3.out).mono ?_
    rintro e w4 ⟨v1, rfl, hrow, hb⟩
    obtain ⟨p1, d1, rfl, _⟩ := row_form hrow
    have hB1 := Below.go hB0 hb
    clear hrow hb hB0 P1 HP3
    go_wp2_with (fail)
    go_at_call 12
    refine (works11_any _).mono ?_
    rintro e wz ⟨rfl, hb⟩
    have hBz := Below.go hB1 hb
    go_wp2_with (fail)
    go_ret
    exact ⟨rfl, hBz⟩
  | true =>
    have AU := Lib.hid (allB_iff.1 hU)
    rw [hU] at P1
    rw [show (if true = true then (0 : Int) else 3) = 0 by rfl] at P1
    rw [show putL 0 n (W : Int) 0 = W * n by simp [putL]] at P1
    clear hU
    cases hS2 : allB (fun k => fitS W (s k)) m with
    | false =>
      rw [hS2] at P2
      rw [show (if false = true then (0 : Int) else 3) = 3 by rfl] at P2
      rw [show putL (W * n) m (W : Int) 3 = 0 by rfl] at P2
      have W8 : (W : Int) < 8 := by
        have := H8.out
        by_cases h : W = 8
        · subst h
          rw [allB_iff.2 fun k hk => fitS_8 (s k) (HS.out k hk)] at hS2
          cases hS2
        · omega
      clear hS2
      go_enter Try.func5, Try.ntmps5
      go_wp2_with (fail)
      go_quiet (fail)
      obtain ⟨w3, e3⟩ : ∃ x, x = w.drewN nq := ⟨_, rfl⟩
      have hB0 : Below w.heap.size w w3 := e3 ▸ below_drewN (Below.refl _ _) _
      rw [← e3]
      have HP3 := Lib.hid (HP.out.later hB0)
      have HQ3 := Lib.hid (HQ.out.later hB0)
      clear e3 HP HQ
      go_wp2_with (fail)
      go_at_call 7
      refine (P1.out _ HP3.out).mono ?_
      rintro e w4 ⟨v1, rfl, hrow, hb⟩
      obtain ⟨p1, d1, rfl, hd1⟩ := row_form hrow
      have BYR := Lib.hid (byt_of_row hrow)
      have HQ4 := Lib.hid (HQ3.out.later hb)
      have hB1 := Below.go hB0 hb
      clear hrow hb hB0 P1 HP3 HQ3
      go_wp2_with (fail)
      go_at_call 9
      refine (P2.out _ _ BYR.out.2.2.1 BYR.out.2.2.2 _ BYR.out.2.1 HQ4.out).mono ?_
      rintro e w5 ⟨v2, rfl, hrow, hb⟩
      obtain ⟨p2, d2, rfl, _⟩ := row_form hrow
      have hB2 := Below.go hB1 hb
      clear hrow hb hB1 P2 BYR HQ4
      go_wp2_with (fail)
      go_at_call 12
      refine (works11_any _).mono ?_
      rintro e wz ⟨rfl, hb⟩
      have hBz := Below.go hB2 hb
      go_wp2_with (fail)
      go_ret
      exact ⟨rfl, hBz⟩
    | true =>
      have AS := Lib.hid (allB_iff.1 hS2)
      rw [hS2] at P2
      rw [show (if true = true then (0 : Int) else 3) = 0 by rfl] at P2
      rw [show putL (W * n) m (W : Int) 0 = W * n + W * m by simp [putL]] at P2
      clear hS2
      have hN : W * n + W * m = W * (n + m) := (Nat.mul_add _ _ _).symm
      rw [hN] at P2
      obtain ⟨N, eN⟩ : ∃ N, W * (n + m) = N := ⟨_, rfl⟩
      rw [eN] at P2
      have EN := Lib.hid eN
      have N160 := Lib.hid (show N ≤ 160 by
        have a := Nat.mul_le_mul H8.out (show n + m ≤ 20 by have := N10.out; have := M10.out; omega)
        omega)
      have F3 : (fun j => outF (outF (fun _ => 0) 0 W g) (W * n) W s j) = bckF W n g s := rfl
      have F4 : outF (outF (fun _ => 0) 0 W g) (W * n) W s = bckF W n g s := rfl
      rw [F4] at P2
      have NG := Lib.hid (fun k hk => num_g W n g s k hk (HG.out k hk).1 (AU.out k hk))
      have NS := Lib.hid (fun k hk => int_s W n g s k H1.out (AS.out k hk))
      have IB := Lib.hid (fun (l j : Nat) (_ : j < l) => in_bck W n g s j)
      clear hN eN F3 F4
      go_enter Try.func5, Try.ntmps5
      go_wp2_with (fail)
      go_quiet (fail)
      obtain ⟨w3, e3⟩ : ∃ x, x = w.drewN nq := ⟨_, rfl⟩
      have hB0 : Below w.heap.size w w3 := e3 ▸ below_drewN (Below.refl _ _) _
      rw [← e3]
      have HP3 := Lib.hid (HP.out.later hB0)
      have HQ3 := Lib.hid (HQ.out.later hB0)
      clear e3 HP HQ
      go_wp2_with (fail)
      go_at_call 7
      refine (P1.out _ HP3.out).mono ?_
      rintro e w4 ⟨v1, rfl, hrow, hb⟩
      obtain ⟨p1, d1, rfl, hd1⟩ := row_form hrow
      have BYR := Lib.hid (byt_of_row hrow)
      have HP4 := Lib.hid (HP3.out.later hb)
      have HQ4 := Lib.hid (HQ3.out.later hb)
      have hB1 := Below.go hB0 hb
      clear hrow hb hB0 P1 HP3 HQ3
      go_wp2_with (fail)
      go_at_call 9
      refine (P2.out _ _ BYR.out.2.2.1 BYR.out.2.2.2 _ BYR.out.2.1 HQ4.out).mono ?_
      rintro e w5 ⟨v2, rfl, hrow, hb⟩
      obtain ⟨p2, d2, rfl, _⟩ := row_form hrow
      have BY2 := Lib.hid (byt_of_row hrow)
      have HP5 := Lib.hid (HP4.out.later hb)
      have HQ5 := Lib.hid (HQ4.out.later hb)
      have hB2 := Below.go hB1 hb
      clear hrow hb hB1 P2 BYR HP4 HQ4
      go_wp2_with (fail)
      go_at_call 13
      refine (New_any p2 N d2 (bckF W n g s) (by have := N160.out; omega) w5 BY2.out.2.1).mono ?_
      rintro e w6 ⟨K, D, rfl, hKw, hDw, hDl, hrd, hb⟩
      have RD := Lib.hid hrd
      have KW := Lib.hid (show w.heap.size ≤ K from Nat.le_trans hB2.size hKw)
      have KW5 := Lib.hid hKw
      have HB6 := Lib.hid hb
      clear hrd hKw hDw hDl
      have BU := Lib.hid (show Below w5.heap.size w5 w6 from hb)
      clear hb
      go_wp2_with (fail)
      go_loopw [83] (fun iv wr => ∃ (k : Nat), k ≤ n ∧ iv = .int .i64 k ∧ Hid (Rd wr K D (bckF W n g s) N (W * k) 0) ∧ Hid (Below w5.heap.size w5 wr)) (fun iv _ => (n - (intOf iv).toNat))
      case atStart => exact ⟨0, Nat.zero_le _, rfl, Lib.hid (by rw [Nat.mul_zero]; exact RD.out), BU⟩
      case round =>
        clear RD BU
        obtain ⟨k, hk, rfl, RD, BU⟩ := hrel
        by_cases hlt : k < n
        · obtain ⟨B_, o, rfl, hB_, hcell⟩ := (HP5.out.later BU.out).at hlt
          have hki : (k : Int) < (n : Int) := by omega
          have k0 : (0 : Int) ≤ (k : Int) := by omega
          have wk : IntKind.i64.wrap ((k : Int) + 1) = (k : Int) + 1 := IntWalk.i64_in _ (by have := N10.out; have := M10.out; omega)
          have NX := nx_ok W N (W * k) H1.out H8.out (by
            have a : W * (k + 1) ≤ W * (n + m) := Nat.mul_le_mul_left _ (by have := hlt; omega)
            rw [EN.out] at a
            have b : W * (k + 1) = W * k + W := by rw [show k + 1 = (k) + 1 by omega, Nat.mul_succ]
            omega)
          have C := Num_any (K := K) (D := D) (N := N) (at_ := W * k) (er := 0) (F := bckF W n g s) (w := wr) (W : Int) (IB.out N) RD.out
          rw [NX.1, NX.2, NG.out k hlt] at C
          have CC := Lib.hid C
          have AT : Hid (W * k + W = W * (k + 1)) := Lib.hid (by rw [Nat.mul_succ])
          obtain ⟨x, ex⟩ : ∃ x, g k = x := ⟨_, rfl⟩
          rw [ex] at hcell CC
          have HLT := Lib.hid hlt
          clear C NX hlt hk ex
          go_wp2_with (fail)
          go_at_call 14
          refine (CC.out).mono ?_
          rintro e y1 ⟨rfl, hr, hb⟩
          have O1 : Hid (Rd y1 K D (bckF W n g s) N (W * (k + 1)) 0) := Lib.hid (by rw [← AT.out]; exact hr)
          have O2 : Hid (Below w5.heap.size w5 y1) := Lib.hid (BU.out.trans (hb.below.mono KW5.out))
          clear hr hb CC RD BU hcell hB_
          go_wp2_with (fail)
          go_roundw
          case rel => (first | exact ⟨k + 1, HLT.out, by go_num, O1, O2⟩ | ((repeat apply Exists.intro); exact ⟨⟨k + 1, HLT.out, by go_num, O1, O2⟩, rfl⟩))
          case measure => (have := HLT.out; simp [intOf]; omega)
        · obtain rfl : n = k := by omega
          clear hlt hk
          go_wp2_with (fail)
          go_loopw [95] (fun iv wr => ∃ (k : Nat), k ≤ m ∧ iv = .int .i64 k ∧ Hid (Rd wr K D (bckF W n g s) N (W * (n + k)) 0) ∧ Hid (Below w5.heap.size w5 wr)) (fun iv _ => (m - (intOf iv).toNat))
          case atStart => exact ⟨0, Nat.zero_le _, rfl, Lib.hid (by rw [Nat.add_zero]; exact RD.out), BU⟩
          case round =>
            clear RD BU
            obtain ⟨k, hk, rfl, RD, BU⟩ := hrel
            by_cases hlt : k < m
            · obtain ⟨B_, o, rfl, hB_, hcell⟩ := (HQ5.out.later BU.out).at hlt
              have hki : (k : Int) < (m : Int) := by omega
              have k0 : (0 : Int) ≤ (k : Int) := by omega
              have wk : IntKind.i64.wrap ((k : Int) + 1) = (k : Int) + 1 := IntWalk.i64_in _ (by have := N10.out; have := M10.out; omega)
              have NX := nx_ok W N (W * (n + k)) H1.out H8.out (by
                have a : W * (n + k + 1) ≤ W * (n + m) := Nat.mul_le_mul_left _ (by have := hlt; omega)
                rw [EN.out] at a
                have b : W * (n + k + 1) = W * (n + k) + W := by rw [show n + k + 1 = (n + k) + 1 by omega, Nat.mul_succ]
                omega)
              have C := Int_any (K := K) (D := D) (N := N) (at_ := W * (n + k)) (er := 0) (F := bckF W n g s) (w := wr) (W : Int) (IB.out N) RD.out
              rw [NX.1, NX.2, NS.out k hlt] at C
              have CC := Lib.hid C
              have AT : Hid (W * (n + k) + W = W * (n + (k + 1))) := Lib.hid (by rw [← Nat.add_assoc n k 1, Nat.mul_succ])
              obtain ⟨x, ex⟩ : ∃ x, s k = x := ⟨_, rfl⟩
              rw [ex] at hcell CC
              have HLT := Lib.hid hlt
              clear C NX hlt hk ex
              go_wp2_with (fail)
              go_at_call 16
              refine (CC.out).mono ?_
              rintro e y1 ⟨rfl, hr, hb⟩
              have O1 : Hid (Rd y1 K D (bckF W n g s) N (W * (n + (k + 1))) 0) := Lib.hid (by rw [← AT.out]; exact hr)
              have O2 : Hid (Below w5.heap.size w5 y1) := Lib.hid (BU.out.trans (hb.below.mono KW5.out))
              clear hr hb CC RD BU hcell hB_
              go_wp2_with (fail)
              go_roundw
              case rel => (first | exact ⟨k + 1, HLT.out, by go_num, O1, O2⟩ | ((repeat apply Exists.intro); exact ⟨⟨k + 1, HLT.out, by go_num, O1, O2⟩, rfl⟩))
              case measure => (have := HLT.out; simp [intOf]; omega)
            · obtain rfl : m = k := by omega
              clear hlt hk
              have ED := End_any RD.out
              have LF := Left_any RD.out
              rw [show endE N (W * (n + m)) 0 = 0 by rw [EN.out]; simp [endE]] at ED
              rw [show leftN N (W * (n + m)) 0 = 0 by rw [EN.out]; simp [leftN]] at LF
              have EDH := Lib.hid ED; have LFH := Lib.hid LF
              have hBr := Below.go hB2 BU.out
              have BYr := Lib.hid (BY2.out.2.1.later BU.out)
              have D2 := Lib.hid BY2.out.2.2
              obtain ⟨T, eT⟩ : ∃ T, n + m = T := ⟨_, rfl⟩
              have eN : W * T = N := by rw [← eT]; exact EN.out
              have T20 : T ≤ 20 := by have := N10.out; have := M10.out; omega
              have wT : IntKind.i64.wrap ((n : Int) + (m : Int)) = (T : Int) := by rw [IntWalk.i64_in _ (by omega)]; omega
              have wN : IntKind.i64.wrap ((W : Int) * (T : Int)) = (N : Int) := by rw [show (W : Int) * (T : Int) = ((W * T : Nat) : Int) by push_cast; rfl, eN]; exact IntWalk.i64_in _ (by have := N160.out; omega)
              have wN1 : IntKind.i64.wrap ((N : Int) - 1) = (N : Int) - 1 := IntWalk.i64_in _ (by have := N160.out; omega)
              have TH := Lib.hid eN; have T2 := Lib.hid T20
              clear ED LF eT eN T20 RD BU hB2 BY2 EN NG NS
              go_wp2_with (fail)
              go_at_call 23
              refine (EDH.out).mono ?_
              rintro e y1 ⟨rfl, hw⟩
              obtain rfl : wr = y1 := hw.symm
              go_wp2_with (fail)
              go_at_call 20
              refine (LFH.out).mono ?_
              rintro e y1 ⟨rfl, hw⟩
              obtain rfl : wr = y1 := hw.symm
              clear EDH LFH
              by_cases hN0 : N = 0
              · subst hN0
                go_wp2_with (fail)
                go_at_call 12
                refine (works11_any _).mono ?_
                rintro e wz ⟨rfl, hb⟩
                have hBz := Below.go hBr hb
                go_wp2_with (fail)
                go_ret
                exact ⟨rfl, hBz⟩
              · obtain ⟨M, eM⟩ : ∃ M, M + 1 = N := ⟨N - 1, by omega⟩
                have hNi : ¬(N : Int) = 0 := by omega
                have wM : IntKind.i64.wrap ((N : Int) - 1) = (M : Int) := by rw [IntWalk.i64_in _ (by have := N160.out; omega)]; omega
                have wM2 : wrap64 ((N : Int) - 1) = (M : Int) := by rw [IntWalk.wrap64_in _ (by have := N160.out; omega)]; omega
                have mM : (0 : Int) ≤ (M : Int) := by omega
                have mD : (M : Int) ≤ (d2 : Int) := by have := D2.out.1; omega
                have BYM := Lib.hid (show Byt wr p2 M (bckF W n g s) by
                  rcases BYr.out with h | ⟨b, off, h1, h2⟩
                  · omega
                  · exact .inr ⟨b, off, h1, has_take h2 (by omega)⟩)
                have EM := Lib.hid eM
                have T0 : 0 < T := by
                  rcases Nat.eq_zero_or_pos T with h | h
                  · have := TH.out; subst h; omega
                  · exact h
                have TP := Lib.hid T0
                clear wN1 eM BYr T0
                go_wp2_with (fail)
                go_at_call 13
                refine (New_any p2 M d2 (bckF W n g s) (by have := N160.out; have := EM.out; omega) wr BYM.out).mono ?_
                rintro e w7 ⟨K2, Dd, rfl, hKw, hDw, hDl, hrd, hb⟩
                have RD2 := Lib.hid hrd
                have KR := Lib.hid hKw
                have BU2 := Lib.hid hb
                clear hrd hKw hDw hDl hb BYM wM wM2 mM mD
                go_wp2_with (fail)
                go_loopw [142] (fun iv wq => ∃ (k at_ : Nat) (er : Int), k ≤ T ∧ iv = .int .i64 k ∧ Hid (k < T → at_ = W * k ∧ er = 0) ∧ Hid (k = T → er = 4) ∧ Hid (Rd wq K2 Dd (bckF W n g s) M at_ er) ∧ Hid (Below w.heap.size w wq)) (fun iv _ => (T - (intOf iv).toNat))
                case atStart => exact ⟨0, 0, 0, Nat.zero_le _, rfl, Lib.hid (fun _ => ⟨by rw [Nat.mul_zero], rfl⟩), Lib.hid (fun h => by have := TP.out; omega), RD2, Lib.hid (Below.go hBr BU2.out)⟩
                case round =>
                  have KRw := Lib.hid (Nat.le_trans hBr.size KR.out)
                  clear RD2 BU2 hBr
                  obtain ⟨k, at_, er, hk, rfl, HA, HE, RD, BU⟩ := hrel
                  by_cases hlt : k < T
                  · have hki : (k : Int) < (T : Int) := by omega
                    have k0 : (0 : Int) ≤ (k : Int) := by omega
                    have wk : IntKind.i64.wrap ((k : Int) + 1) = (k : Int) + 1 := IntWalk.i64_in _ (by have := T2.out; omega)
                    obtain ⟨ea, ee⟩ := HA.out hlt
                    have NN := Lib.hid (Num_any (K := K2) (D := Dd) (N := M) (at_ := at_) (er := er) (F := bckF W n g s) (w := wr) (W : Int) (IB.out M) RD.out)
                    have HA2 : Hid (k + 1 < T → nxA at_ (W : Int) (nxE M at_ er (W : Int) 1 8) = W * (k + 1) ∧ nxE M at_ er (W : Int) 1 8 = 0) := Lib.hid fun h => by
                      subst ea ee
                      have a : W * (k + 1 + 1) ≤ W * T := Nat.mul_le_mul_left _ h
                      rw [TH.out, Nat.mul_succ, Nat.mul_succ] at a
                      have NX := nx_ok W M (W * k) H1.out H8.out (by have := H1.out; have := EM.out; omega)
                      rw [NX.1]
                      exact ⟨by rw [NX.2, Nat.mul_succ], rfl⟩
                    have HE2 : Hid (k + 1 = T → nxE M at_ er (W : Int) 1 8 = 4) := Lib.hid fun h => by
                      subst ea ee
                      have a := TH.out
                      rw [← h, Nat.mul_succ] at a
                      exact nx_short W M (W * k) H1.out H8.out (by have := H1.out; have := EM.out; omega)
                    have HLT := Lib.hid hlt
                    generalize nxA at_ (W : Int) (nxE M at_ er (W : Int) 1 8) = a5 at *
                    generalize numF (bckF W n g s) at_ (W : Int) (nxE M at_ er (W : Int) 1 8) = v5 at *
                    generalize nxE M at_ er (W : Int) 1 8 = e5 at *
                    clear hlt hk HA HE RD ea ee
                    go_wp2_with (fail)
                    go_at_call 14
                    refine (NN.out).mono ?_
                    rintro e y1 ⟨rfl, hr, hb⟩
                    have O1 := Lib.hid hr
                    have O2 := Lib.hid (BU.out.trans (hb.below.mono KRw.out))
                    clear hr hb NN BU
                    go_wp2_with (fail)
                    go_roundw
                    case rel => (first | exact ⟨k + 1, a5, e5, HLT.out, by go_num, HA2, HE2, O1, O2⟩ | ((repeat apply Exists.intro); exact ⟨⟨k + 1, a5, e5, HLT.out, by go_num, HA2, HE2, O1, O2⟩, rfl⟩))
                    case measure => (have := HLT.out; simp [intOf]; omega)
                  · obtain rfl : T = k := by omega
                    have ER := Lib.hid (Err_any RD.out)
                    rw [HE.out rfl] at ER
                    clear hlt hk HA HE RD
                    go_wp2_with (fail)
                    go_at_call 22
                    refine (ER.out).mono ?_
                    rintro e y1 ⟨rfl, hw⟩
                    obtain rfl : wr = y1 := hw.symm
                    go_wp2_with (fail)
                    go_at_call 12
                    refine (works11_any _).mono ?_
                    rintro e wz ⟨rfl, hb⟩
                    have hBz := Below.go BU.out hb
                    go_wp2_with (fail)
                    go_ret
                    exact ⟨rfl, hBz⟩
end Go.Proofs.Ytbgkdghimnmmaaa
