/- CodecWidths: the walk. -/
import Derived.Test.YtbgkdghimnmmaaaDG
import Derived.Lib.Hide
import Derived.Deep.Onto
import Derived.StillTailTactics
namespace Go.Proofs.Ytbgkdghimnmmaaa
set_option linter.unusedVariables false
set_option maxRecDepth 2000
set_option linter.unusedSimpArgs false
open Go.RowKit
theorem wide_of (wd : Int) (d : Nat) (hd : 1 ≤ d) (hd2 : d ≤ 8) : ∃ W : Nat, 1 ≤ W ∧ W ≤ d ∧ (wd.tmod d + d).tmod d + 1 = (W : Int) ∧ -(d : Int) < wd.tmod d ∧ wd.tmod d < d ∧ 0 ≤ (wd.tmod d + d).tmod d ∧ (wd.tmod d + d).tmod d < d := by
  have a1 : wd.tmod d < d := Int.tmod_lt_of_pos _ (by omega)
  have a2 : -(d : Int) < wd.tmod d := by
    have : (-wd).tmod d < d := Int.tmod_lt_of_pos _ (by omega)
    rw [Int.neg_tmod] at this
    omega
  have b1 : 0 ≤ (wd.tmod d + d).tmod d := Int.tmod_nonneg _ (by omega)
  have b2 : (wd.tmod d + d).tmod d < d := Int.tmod_lt_of_pos _ (by omega)
  exact ⟨((wd.tmod d + d).tmod d + 1).toNat, by omega, by omega, by omega, a2, a1, b1, b2⟩
theorem put1 (W : Nat) (x : Int) (h1 : 1 ≤ W) (h8 : W ≤ 8) : putE fitU (W : Int) 1 (fun _ => x) = if fitU W x then 0 else 3 := by
  unfold putE badW
  rw [if_neg (by simp; omega), Int.toNat_natCast]
  simp [allB]
theorem fitU_more (W : Nat) (x : Int) (h : fitU W x = true) : fitU (W + 1) x = true := by
  have := pw_pos W
  simp only [fitU, decide_eq_true_eq, pw_succ] at *
  omega

set_option maxHeartbeats 4000000 in
theorem Widths_law (x wd : Int) (hx : 0 ≤ x ∧ x ≤ 18446744073709551615) (w : World) : Calls Try.prog 6 #[.int .u64 x, .int .i64 wd] w fun e w' => e = .returned (.bool true) ∧ Below w.heap.size w w' := by
  obtain ⟨W, h1, h7, eW, a1, a2, b1, b2⟩ := wide_of wd 7 (by decide) (by decide)
  simp only [Int.cast_ofNat_Int] at eW a1 a2 b1 b2
  have HX := Lib.hid hx
  have P1 := Lib.hid (fun p w hp => Put_any none p 0 0 1 1 (W : Int) (fun _ => 0) (fun _ => x) (fun k hk => HX.out) (Nat.le_refl _) (by decide) (Nat.le_refl _) (by decide) (by decide) w (.inl rfl) hp)
  have P2 := Lib.hid (fun p w hp => Put_any none p 0 0 1 1 ((W + 1 : Nat) : Int) (fun _ => 0) (fun _ => x) (fun k hk => HX.out) (Nat.le_refl _) (by decide) (Nat.le_refl _) (by decide) (by decide) w (.inl rfl) hp)
  rw [put1 W x h1 (by omega), Int.toNat_natCast] at P1
  rw [put1 (W + 1) x (by omega) (by omega), Int.toNat_natCast] at P2
  have FM := Lib.hid (fitU_more W x)
  have H1 := Lib.hid h1; have H7 := Lib.hid h7
  obtain ⟨V, eV⟩ : ∃ V, W + 1 = V := ⟨_, rfl⟩
  rw [eV] at P2 FM
  have EV := Lib.hid eV
  obtain ⟨t, et⟩ : ∃ t, wd.tmod 7 = t := ⟨_, rfl⟩
  rw [et] at eW a1 a2 b1 b2
  obtain ⟨s, es⟩ : ∃ s, (t + 7).tmod 7 = s := ⟨_, rfl⟩
  rw [es] at eW b1 b2
  have r1 : IntKind.i64.wrap t = t := IntWalk.i64_in _ (by omega)
  have r2 : IntKind.i64.wrap (t + 7) = t + 7 := IntWalk.i64_in _ (by omega)
  have r3 : IntKind.i64.wrap s = s := IntWalk.i64_in _ (by omega)
  have r4 : IntKind.i64.wrap (s + 1) = (W : Int) := by rw [eW]; exact IntWalk.i64_in _ (by omega)
  have r5 : IntKind.i64.wrap ((W : Int) + 1) = (V : Int) := by rw [IntWalk.i64_in _ (by omega)]; omega
  clear hx eW a1 a2 b1 b2 h1 h7 eV
  cases hft : fitU W x with
  | false =>
    rw [hft] at P1
    rw [show (if false = true then (0 : Int) else 3) = 3 by rfl] at P1
    generalize (if fitU V x = true then (0 : Int) else 3) = E2 at *
    go_enter Try.func6, Try.ntmps6
    go_wp2_with (fail)
    go_at_call 7
    refine (P1.out _ _ (nm_new rfl)).mono ?_
    rintro e w1 ⟨v1, rfl, hrow, hb⟩
    obtain ⟨p1, c1, rfl, _⟩ := row_form hrow
    have hB1 := Below.go (Below.al (Below.refl _ _)) hb
    clear hrow hb P1
    go_wp2_with (fail)
    go_at_call 7
    refine (P2.out _ _ (nm_new rfl)).mono ?_
    rintro e w2 ⟨v2, rfl, hrow, hb⟩
    have hb2 := Below.go (Below.al (Below.refl _ _)) hb
    have hB2 := Below.go hB1 hb2
    clear hrow hb hb2 hB1 P2
    go_wp2_with (fail)
    go_at_call 12
    refine (works11_any _).mono ?_
    rintro e w3 ⟨rfl, hb⟩
    have hB3 := Below.go hB2 hb
    go_wp2_with (fail)
    go_ret
    exact ⟨rfl, hB3⟩
  | true =>
    rw [hft] at P1
    rw [FM.out hft] at P2
    rw [show (if true = true then (0 : Int) else 3) = 0 by rfl] at P1 P2
    rw [show putL 0 1 (W : Int) 0 = W by simp [putL]] at P1
    rw [show putL 0 1 (V : Int) 0 = V by simp [putL]] at P2
    have F1 : ∀ j, j < W → outF (fun _ => 0) 0 W (fun _ => x) j = dg x j := fun j hj => by have := outF_dg (fun _ => 0) 0 W (fun _ => x) 0 j hj; simpa using this
    have F2 : ∀ j, j < V → outF (fun _ => 0) 0 V (fun _ => x) j = dg x j := fun j hj => by have := outF_dg (fun _ => 0) 0 V (fun _ => x) 0 j hj; simpa using this
    have DZ : dg x W = 0 := by
      simp only [fitU, decide_eq_true_eq] at hft
      unfold dg
      rw [Int.ediv_eq_zero_of_lt HX.out.1 hft]
      rfl
    go_enter Try.func6, Try.ntmps6
    go_wp2_with (fail)
    go_at_call 7
    refine (P1.out _ _ (nm_new rfl)).mono ?_
    rintro e w1 ⟨v1, rfl, hrow, hb⟩
    obtain ⟨p1, c1, rfl, _⟩ := row_form hrow
    have BY1 := byt_eq (byt_row hrow).2 F1
    have hB1 := Below.go (Below.al (Below.refl _ _)) hb
    clear hrow hb P1 F1
    go_wp2_with (fail)
    go_at_call 7
    refine (P2.out _ _ (nm_new rfl)).mono ?_
    rintro e w2 ⟨v2, rfl, hrow, hb⟩
    obtain ⟨p2, c2, rfl, hc2⟩ := row_form hrow
    have BY2 := byt_eq (byt_row hrow).2 F2
    have hb2 := Below.go (Below.al (Below.refl _ _)) hb
    have hB2 := Below.go hB1 hb2
    replace BY1 := BY1.later hb2
    clear hrow hb hb2 hB1 P2 F2
    have BY1d : Byt (World.drew w2) p1 W (dg x) := BY1.later (Below.refl _ _).drew
    have BY2d : Byt (World.drew w2) p2 V (dg x) := BY2.later (Below.refl _ _).drew
    obtain ⟨D, o, rfl, hH⟩ := BY2d.resolve_left (by have := EV.out; omega)
    have hcell : (World.drew w2).cell? ⟨D, o + W, none⟩ = some (.int .u8 0) := by rw [← DZ]; exact hH.cell W _ (nums_at _ _ (by have := EV.out; omega))
    have cv1 := conv_any p1 W c1 (dg x) _ BY1d
    have BY2t : Byt (World.drew w2) (some ⟨D, o, none⟩) W (dg x) := .inr ⟨D, o, rfl, has_take hH (by have := EV.out; omega)⟩
    have cv2 := conv_any (some ⟨D, o, none⟩) W c2 (dg x) _ BY2t
    generalize strOfNums ((List.range W).map (dg x)) = S_ at *
    have hD : D < (World.drew w2).heap.size := hH.lt
    have wl : (W : Int) < (V : Int) := by have := EV.out; omega
    have w0 : (0 : Int) ≤ (W : Int) := by omega
    have wc : (W : Int) ≤ (c2 : Int) := by have := EV.out; omega
    have hBd : Below w.heap.size w (World.drew w2) := hB2.drew
    clear BY1 BY2 BY1d BY2d BY2t DZ hH hft hc2 hB2
    go_upto_region 6 with fail
    refine wp_region_still_tail 32 (by kernel_rfl) (by kernel_rfl) ?_; simp only [List.take_succ_cons, List.take_zero, List.drop_succ_cons, List.drop_zero]; change wpStill _ _ (World.drew _) (fun a1 => wpList _ _ _ _ a1 (World.drew _)) _ _; repeat still_step
    refine wpStill_nil ?_
    clear cv1 cv2 hcell hD
    go_wp2_with (fail)
    go_at_call 12
    refine (works11_any _).mono ?_
    rintro e w3 ⟨rfl, hb⟩
    have hB3 := Below.go hBd hb
    go_wp2_with (fail)
    go_ret
    exact ⟨rfl, hB3⟩
end Go.Proofs.Ytbgkdghimnmmaaa
