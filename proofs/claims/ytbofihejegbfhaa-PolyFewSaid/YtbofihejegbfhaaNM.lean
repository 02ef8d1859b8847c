/- Digits of 26 bits; the document's digits. -/
import Derived.Test.YtbofihejegbfhaaNI
import Derived.Lib.Hide
import Derived.StillTailTactics
namespace Go.Proofs.Ytbofihejegbfhaa
set_option linter.unusedVariables false
set_option maxRecDepth 2000
set_option linter.unusedSimpArgs false
open Go.RowKit
/-- the j-th 26 bits of N -/
def digs (N j : Nat) : Int := ((N / 2 ^ (26 * j) % 67108864 : Nat) : Int)
theorem digs_bd (N j : Nat) : 0 ≤ digs N j ∧ digs N j < 67108864 := by unfold digs; omega
theorem pw26 (k : Nat) : 2 ^ (26 * (k + 1)) = 2 ^ (26 * k) * 67108864 := by rw [Nat.mul_add, Nat.pow_add]
/-- a number of five digits -/
def V5 (f : Nat → Int) : Int := f 0 + 67108864 * f 1 + 4503599627370496 * f 2 + 302231454903657293676544 * f 3 + 20282409603651670423947251286016 * f 4
theorem V5_digs (N : Nat) (h : N < TT) : V5 (digs N) = N := by
  unfold V5 digs TT at *
  simp only [Nat.reduceMul, Nat.reducePow]
  omega
theorem digs_V5 (f : Nat → Int) (h : ∀ i, i < 5 → 0 ≤ f i ∧ f i < 67108864) : 0 ≤ V5 f ∧ (V5 f).toNat < TT ∧ ∀ i, i < 5 → f i = digs (V5 f).toNat i := by
  have h0 := h 0 (by decide); have h1 := h 1 (by decide); have h2 := h 2 (by decide); have h3 := h 3 (by decide); have h4 := h 4 (by decide)
  have k1 : ∀ i, i < 5 → i = 0 ∨ i = 1 ∨ i = 2 ∨ i = 3 ∨ i = 4 := by omega
  refine ⟨by unfold V5; omega, by unfold V5 TT; omega, fun i hi => ?_⟩
  rcases k1 i hi with rfl | rfl | rfl | rfl | rfl <;> (unfold digs V5; simp only [Nat.reduceMul, Nat.reducePow]; omega)
/-- a bit more: one digit turns -/
theorem digs_add (M s t : Nat) (ht : t < 26) (hM : M < 2 ^ (26 * s + t)) (j : Nat) : digs (M + 2 ^ (26 * s + t)) j = if j = s then digs M j + ((2 ^ t : Nat) : Int) else digs M j := by
  have pt : 2 ^ t ≤ 33554432 := by
    have := Nat.pow_le_pow_right (n := 2) (by decide) (show t ≤ 25 by omega)
    simpa using this
  have e : 2 ^ (26 * s + t) = 2 ^ t * 2 ^ (26 * s) := by rw [← Nat.pow_add, Nat.add_comm]
  by_cases h1 : j = s
  · subst h1
    rw [if_pos rfl]
    unfold digs
    have hM0 : 0 < 2 ^ (26 * j) := Nat.two_pow_pos _
    rw [e] at hM ⊢
    rw [Nat.add_mul_div_right _ _ hM0]
    have hd : M / 2 ^ (26 * j) < 2 ^ t := Nat.div_lt_of_lt_mul (Nat.lt_of_lt_of_eq hM (Nat.mul_comm _ _))
    generalize M / 2 ^ (26 * j) = d at *
    omega
  · rw [if_neg h1]
    unfold digs
    by_cases h2 : j < s
    · have e2 : 2 ^ (26 * s) = 2 ^ (26 * j) * (67108864 * 2 ^ (26 * (s - j - 1))) := by
        rw [show (67108864 : Nat) = 2 ^ 26 from rfl, ← Nat.pow_add, ← Nat.pow_add]; congr 1; omega
      rw [e, e2, show 2 ^ t * (2 ^ (26 * j) * (67108864 * 2 ^ (26 * (s - j - 1)))) = 2 ^ (26 * j) * (67108864 * (2 ^ (26 * (s - j - 1)) * 2 ^ t)) by grind, Nat.add_mul_div_left _ _ (Nat.two_pow_pos _), Nat.add_mul_mod_self_left]
    · have b1 : M + 2 ^ (26 * s + t) < 2 ^ (26 * j) := by
        have q1 : 2 ^ (26 * s + t + 1) ≤ 2 ^ (26 * j) := Nat.pow_le_pow_right (by decide) (by omega)
        rw [Nat.pow_succ] at q1
        omega
      rw [Nat.div_eq_of_lt b1, Nat.div_eq_of_lt (by omega)]
theorem digs_nums (M s t n : Nat) (ht : t < 26) (hM : M < 2 ^ (26 * s + t)) : nums .i64 (at1 (digs M) s (digs M s + ((2 ^ t : Nat) : Int))) n = nums .i64 (digs (M + 2 ^ (26 * s + t))) n := nums_congr _ fun j _ => by
  rw [digs_add M s t ht hM]
  unfold at1
  by_cases h : j = s
  · rw [if_pos h, if_pos h, h]
  · rw [if_neg h, if_neg h]
/-- the bits of a number, out of its bytes -/
theorem bit_of (f : Nat → Int) (n q r : Nat) (hq : q < n) (hr : r < 8) (h : ∀ j, j < n → inB (f j)) : f q / ((2 ^ r : Nat) : Int) % 2 = ((numB f n / 2 ^ (8 * q + r) % 2 : Nat) : Int) := by
  rw [← byt_numB f n q hq h]
  unfold byt
  rw [Nat.pow_add, show 2 ^ (8 * q) = 256 ^ q by rw [Nat.pow_mul], ← Nat.div_div_eq_div_mul]
  generalize numB f n / 256 ^ q = d
  rw [← Int.natCast_ediv]
  have e : d % 256 / 2 ^ r % 2 = d / 2 ^ r % 2 := by
    have e2 : 256 = 2 ^ r * (2 * 2 ^ (7 - r)) := by
      rw [← Nat.pow_succ', ← Nat.pow_add]; rw [show r + (7 - r + 1) = 8 by omega]
    rw [e2, Nat.mod_mul_right_div_self, Nat.mod_mul_right_mod]
  rw [← e]
  omega
theorem mod_next (N i : Nat) : N % 2 ^ (i + 1) = N % 2 ^ i + 2 ^ i * (N / 2 ^ i % 2) := by rw [Nat.pow_succ, nat_mod_mul]
theorem and1_u8 (x : Int) (h : inB x) : bits .and .u8 x 1 = x % 2 := by
  obtain ⟨a, rfl⟩ := Int.eq_ofNat_of_zero_le h.1
  have := h.2
  rw [show (1 : Int) = ((1 : Nat) : Int) from rfl, u8_and_nat a 1 (by omega) (by decide), Nat.and_one_is_mod]
  omega
theorem tdiv26 (s t : Nat) (h : t < 26) : ((26 * s + t : Nat) : Int).tdiv 26 = (s : Int) := by
  rw [Int.tdiv_eq_ediv_of_nonneg (by omega)]; omega
theorem tmod26 (s t : Nat) (h : t < 26) : ((26 * s + t : Nat) : Int).tmod 26 = (t : Int) := by
  rw [Int.tmod_eq_emod_of_nonneg (by omega)]; omega
attribute [local go_sem] nums_length

set_option maxHeartbeats 4000000 in
theorem digits_any (f : Nat → Int) (N : Nat) (hf : ∀ i, i < 17 → inB (f i)) (eN : numB f 17 = N) (hN : N < TT) (w : World) :
    Calls Try.prog 19 #[(.agg (nums .u8 f 17).toArray)] w fun e w' => e = .returned (.agg (nums .i64 (digs N) 5).toArray) ∧ Below w.heap.size w w' := by
  have FB := Lib.hid hf; have HT := Lib.hid hN; have EN := Lib.hid eN
  clear hf hN eN
  go_enter Try.func19, Try.ntmps19
  go_upto_region 2 with fail
  obtain ⟨W0, hW⟩ : ∃ W0, W0 = (((w.alloc (.cells (nums .u8 f 17).toArray 48)).alloc (.cells #[.int .i64 0, .int .i64 0, .int .i64 0, .int .i64 0, .int .i64 0] 49)).alloc (.cells #[.int .i64 0, .int .i64 0, .int .i64 0, .int .i64 0, .int .i64 0] 49)) := ⟨_, rfl⟩
  have hB0 : Below w.heap.size w W0 := hW ▸ (Below.al (Below.al (Below.al (Below.refl _ _))))
  have HX : Hid (Own w.heap.size (nums .u8 f 17) W0) := Lib.hid (hW ▸ (show Own w.heap.size (nums .u8 f 17) (w.alloc (.cells (nums .u8 f 17).toArray 48)) from Own.newAt (by simp)).alloc.alloc)
  have HR : Hid (Own (w.heap.size + 1) (nums .i64 (fun _ => 0) 5) W0) := Lib.hid (hW ▸ (show Own (w.heap.size + 1) (nums .i64 (fun _ => 0) 5) ((w.alloc (.cells (nums .u8 f 17).toArray 48)).alloc (.cells #[.int .i64 0, .int .i64 0, .int .i64 0, .int .i64 0, .int .i64 0] 49)) from Own.newAt (by simp)).alloc)
  have HQ : Hid (Own ((w.heap.size + 1) + 1) (nums .i64 (fun _ => 0) 5) W0) := Lib.hid (hW ▸ (show Own ((w.heap.size + 1) + 1) (nums .i64 (fun _ => 0) 5) (((w.alloc (.cells (nums .u8 f 17).toArray 48)).alloc (.cells #[.int .i64 0, .int .i64 0, .int .i64 0, .int .i64 0, .int .i64 0] 49)).alloc (.cells #[.int .i64 0, .int .i64 0, .int .i64 0, .int .i64 0, .int .i64 0] 49)) from Own.newAt (by simp)))
  rw [← hW]
  clear hW
  obtain ⟨Q, eQ⟩ : ∃ X, X = ((w.heap.size + 1) + 1) := ⟨_, rfl⟩
  rw [← eQ] at HQ ⊢
  have Qw : w.heap.size ≤ Q := by omega
  obtain ⟨R, eR⟩ : ∃ X, X = (w.heap.size + 1) := ⟨_, rfl⟩
  rw [← eR] at HR ⊢
  have Rw : w.heap.size ≤ R := by omega
  obtain ⟨X, eX⟩ : ∃ X, X = w.heap.size := ⟨_, rfl⟩
  rw [← eX] at HX ⊢
  have Xw : w.heap.size ≤ X := by omega
  have nXR : X ≠ R := by omega
  have nRX : R ≠ X := by omega
  have nXQ : X ≠ Q := by omega
  have nQX : Q ≠ X := by omega
  have nRQ : R ≠ Q := by omega
  have nQR : Q ≠ R := by omega
  clear eX eR eQ
  go_wp2_with (fail)
  go_loopw [4] (fun iv wr => ∃ (i : Nat), i ≤ 136 ∧ iv = .int .i64 i ∧ Hid (Below w.heap.size w wr) ∧ Hid (Own X (nums .u8 f 17) wr) ∧ Hid (Own Q (nums .i64 (digs (N % 2 ^ i)) 5) wr) ∧ Hid (Own R (nums .i64 (fun _ => 0) 5) wr)) (fun iv _ => (136 - (intOf iv).toNat))
  case atStart => exact ⟨0, by omega, rfl, Lib.hid hB0, HX, Lib.hid (by rw [show nums .i64 (digs (N % 2 ^ 0)) 5 = nums .i64 (fun _ => 0) 5 from nums_congr _ fun j _ => by simp [digs, Nat.mod_one]]; exact HQ.out), HR⟩
  case round =>
    clear HX HQ HR hB0
    obtain ⟨i, hi, rfl, HB, HX, HQ, HR⟩ := hrel
    by_cases hlt : i < 136
    · obtain ⟨q, r, hr, ei⟩ : ∃ q r, r < 8 ∧ i = 8 * q + r := ⟨i / 8, i % 8, by omega, by omega⟩
      have hq : q < 17 := by omega
      have hd := tdiv8 q r hr
      have hm := tmod8 q r hr
      have x0 := HX.out.at q _ (nums_at _ _ hq)
      have bo := bit_of f 17 q r hq hr FB.out
      rw [EN.out] at bo
      have bx := FB.out q hq
      have mn := mod_next N i
      have MN := Lib.hid mn
      rw [← ei] at bo hd hm
      obtain ⟨x, ex⟩ : ∃ x, f q = x := ⟨_, rfl⟩
      rw [ex] at x0 bo bx
      have pr : 0 < 2 ^ r := Nat.two_pow_pos _
      have y0 : 0 ≤ x / ((2 ^ r : Nat) : Int) := Int.ediv_nonneg bx.1 (by omega)
      have y1 : x / ((2 ^ r : Nat) : Int) ≤ x := Int.ediv_le_self _ bx.1
      obtain ⟨y, ey⟩ : ∃ y, x / ((2 ^ r : Nat) : Int) = y := ⟨_, rfl⟩
      rw [ey] at bo y0 y1
      have sh1 : x / 2 ^ (r : Int).toNat = y := by rw [← ey]; simp
      have sh2 : x / 2 ^ r = y := by rw [← ey]; simp
      have sh3 : x / 2 ^ min r 8 = y := by rw [Nat.min_eq_left (by omega)]; exact sh2
      have wy : IntKind.u8.wrap y = y := by unfold inB at bx; rw [IntKind.wrap_u8']; omega
      have an := and1_u8 y (by unfold inB at *; omega)
      have w1 : IntKind.i64.wrap (q : Int) = (q : Int) := IntWalk.i64_in _ (by omega)
      have w2 : IntKind.i64.wrap (r : Int) = (r : Int) := IntWalk.i64_in _ (by omega)
      have q0 : (0 : Int) ≤ (q : Int) := by omega
      have q17 : (q : Int) < 17 := by omega
      have r0 : (0 : Int) ≤ (r : Int) := by omega
      have i1 : (i : Int) < 136 := by omega
      have i63 : IntKind.i64.wrap ((i : Int) + 1) = (i : Int) + 1 := IntWalk.i64_in _ (by omega)
      have Xl := HX.out.lt
      have b01 : N / 2 ^ i % 2 = 0 ∨ N / 2 ^ i % 2 = 1 := by omega
      have EI := Lib.hid ei
      have HLT := Lib.hid hlt
      clear bx y0 y1 ey ex mn hi ei hr hq pr
      rcases b01 with b0 | b1
      · have an0 : bits .and .u8 y 1 = 0 := by rw [an, bo, b0]; rfl
        clear an
        have SM : Hid (nums .i64 (digs (N % 2 ^ i)) 5 = nums .i64 (digs (N % 2 ^ (i + 1))) 5) := Lib.hid (by rw [MN.out, b0, Nat.mul_zero, Nat.add_zero])
        have HQ2 := Lib.hid (SM.out ▸ HQ.out)
        clear b0 bo HQ SM hlt
        go_wp2_with (fail)
        go_roundw
        case rel => (first | exact ⟨i + 1, HLT.out, by go_num, HB, HX, HQ2, HR⟩ | ((repeat apply Exists.intro); exact ⟨⟨i + 1, HLT.out, by go_num, HB, HX, HQ2, HR⟩, rfl⟩))
        case measure => (have := HLT.out; simp [intOf]; omega)
      · have an1 : bits .and .u8 y 1 = 1 := by rw [an, bo, b1]; rfl
        clear an
        have hML : N % 2 ^ i < 2 ^ i := Nat.mod_lt _ (Nat.two_pow_pos _)
        have i130 : i < 130 := by
          rcases Nat.lt_or_ge i 130 with h | h
          · exact h
          · exfalso
            have : 2 ^ 130 ≤ 2 ^ i := Nat.pow_le_pow_right (by decide) h
            have h2 := HT.out
            rw [Nat.div_eq_of_lt (show N < 2 ^ i by unfold TT at h2; omega)] at b1
            omega
        obtain ⟨s, t_, ht, est⟩ : ∃ s t, t < 26 ∧ i = 26 * s + t := ⟨i / 26, i % 26, by omega, by omega⟩
        have s5 : s < 5 := by omega
        have h26 := tdiv26 s t_ ht
        have m26 := tmod26 s t_ ht
        rw [← est] at h26 m26
        have DN := digs_nums (N % 2 ^ i) s t_ 5 ht (by rw [← est]; exact hML)
        rw [← est, show N % 2 ^ i + 2 ^ i = N % 2 ^ (i + 1) by rw [MN.out, b1, Nat.mul_one]] at DN
        have pt : 2 ^ t_ ≤ 33554432 := by
          have := Nat.pow_le_pow_right (n := 2) (by decide) (show t_ ≤ 25 by omega)
          simpa using this
        have d0 := HQ.out.at s _ (nums_at _ _ s5)
        have df := HQ.out.ok s (by rw [nums_length]; exact s5)
        have Ql := HQ.out.lt
        have bd := digs_bd (N % 2 ^ i) s
        obtain ⟨a_, ea⟩ : ∃ a_, digs (N % 2 ^ i) s = a_ := ⟨_, rfl⟩
        rw [ea] at d0 DN bd
        obtain ⟨p_, ep⟩ : ∃ p_, ((2 ^ t_ : Nat) : Int) = p_ := ⟨_, rfl⟩
        rw [ep] at DN
        have ep2 : (2 : Int) ^ t_ = p_ := by rw [← ep]; simp
        have ep4 : (2 : Int) ^ min t_ 64 = p_ := by rw [Nat.min_eq_left (by omega)]; exact ep2
        have ep3 : (2 : Int) ^ (t_ : Int).toNat = p_ := by rw [← ep]; simp
        have pb : 0 ≤ p_ ∧ p_ ≤ 33554432 := ⟨ep ▸ Int.natCast_nonneg _, ep ▸ Int.ofNat_le.2 pt⟩
        have wp : IntKind.i64.wrap p_ = p_ := IntWalk.i64_in _ (by omega)
        have wp1 : IntKind.i64.wrap (1 * p_) = p_ := by rw [Int.one_mul]; exact wp
        obtain ⟨z, ez⟩ : ∃ z, a_ + p_ = z := ⟨_, rfl⟩
        rw [ez] at DN
        have wz : IntKind.i64.wrap z = z := IntWalk.i64_in _ (by omega)
        have wz2 : wrap64 z = z := by unfold wrap64; omega
        have wp2 : wrap64 p_ = p_ := by unfold wrap64; omega
        have w3 : IntKind.i64.wrap (s : Int) = (s : Int) := IntWalk.i64_in _ (by omega)
        have w4 : IntKind.i64.wrap (t_ : Int) = (t_ : Int) := IntWalk.i64_in _ (by omega)
        have s0 : (0 : Int) ≤ (s : Int) := by omega
        have s5i : (s : Int) < 5 := by omega
        have t0 : (0 : Int) ≤ (t_ : Int) := by omega
        have i13 : (i : Int) < 130 := by omega
        have DN2 := Lib.hid DN
        have S5 := Lib.hid s5
        clear b1 bo hlt hML i130 ht est pt pb bd ea ep DN s5
        go_wp2_with (fail)
        refine wp_region_still_tail 11 (by kernel_rfl) (by kernel_rfl) ?_; simp only [List.take_succ_cons, List.take_zero, List.drop_succ_cons, List.drop_zero]; change wpStill _ _ (World.drew _) (fun a1 => wpList _ _ _ _ a1 (World.drew _)) _ _; repeat still_step
        refine wpStill_nil ?_
        have o1 := Lib.hid (DN2.out ▸ own_set (v := z) HQ.out.drew S5.out)
        have o2 := Lib.hid (Own.far (c := Q) (o := s) (vs := [.int .i64 z]) HX.out.drew nXQ)
        have o3 := Lib.hid (Own.far (c := Q) (o := s) (vs := [.int .i64 z]) HR.out.drew nRQ)
        have o4 := Lib.hid (Below.setCells HB.out.drew Qw [.int .i64 z] s)
        clear HQ HX HR HB DN2
        go_wp2_with (fail)
        go_roundw
        case rel => (first | exact ⟨i + 1, HLT.out, by go_num, o4, o2, o1, o3⟩ | ((repeat apply Exists.intro); exact ⟨⟨i + 1, HLT.out, by go_num, o4, o2, o1, o3⟩, rfl⟩))
        case measure => (have := HLT.out; simp [intOf]; omega)
    · have e4 : i = 136 := by omega
      subst e4
      rw [show N % 2 ^ 136 = N from Nat.mod_eq_of_lt (by have := HT.out; unfold TT at this; omega)] at HQ
      go_upto_region 7 with fail
      have hB0 := HB.out
      refine wp_region_lit ?_
      refine wpList_load_mid rfl 49 _ rfl Q 0 rfl (nums .i64 (digs N) 5) _ HQ.out.cell Try.underlying49 rfl (by kernel_rfl) ?_
      refine wpList_store_mid rfl 49 _ _ rfl R 0 (nums .i64 (digs N) 5).toArray rfl rfl HR.out.free (by kernel_rfl) (nums_all _ _ _) ?_
      change wpList _ _ _ [] _ (wr.setCells R 0 (nums .i64 (digs N) 5))
      have HRn : Hid (Own R (nums .i64 (digs N) 5) (wr.setCells R 0 (nums .i64 (digs N) 5))) := Lib.hid (Own.store HR.out (by simp [nums_length]))
      have HQn : Hid (Own Q (nums .i64 (digs N) 5) (wr.setCells R 0 (nums .i64 (digs N) 5))) := Lib.hid (Own.far (o := 0) (vs := (nums .i64 (digs N) 5)) HQ.out nQR)
      have hB0n : Below w.heap.size w (wr.setCells R 0 (nums .i64 (digs N) 5)) := Below.setCells hB0 Rw (nums .i64 (digs N) 5) 0
      clear HR HQ hB0
      generalize (wr.setCells R 0 (nums .i64 (digs N) 5)) = wz at *
      have HR := HRn
      clear HRn
      have HQ := HQn
      clear HQn
      have hB0 := hB0n
      clear hB0n
      go_wp2_with (fail)
      have hL := run_loadVar_mid (P := Try.prog) _ R 0 49 (nums .i64 (digs N) 5) _ HR.out.cell Try.underlying49 rfl (by kernel_rfl)
      exact bodyPost_ret (v := .agg (nums .i64 (digs N) 5).toArray) (res_cell Try.results19 rfl hL) rfl ⟨rfl, hB0⟩
end Go.Proofs.Ytbofihejegbfhaa
