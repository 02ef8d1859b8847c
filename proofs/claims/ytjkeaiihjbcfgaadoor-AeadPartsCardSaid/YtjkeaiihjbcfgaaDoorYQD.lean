/- NM NN NO NP NS NQ, in one text. -/
import Derived.Test.YtjkeaiihjbcfgaaDoorYQC
import Derived.Lib.Hide
import Derived.StillTailTactics
import Derived.Deep.QuietTactic
/- NM -/
namespace Go.Proofs.YtjkeaiihjbcfgaaDoor
set_option linter.unusedVariables false
set_option maxRecDepth 2000
set_option linter.unusedSimpArgs false
open Go.RowKit
/-- the j-th 26 bits of N -/
def digs (N j : Nat) : Int := ((N / 2 ^ (26 * j) % 67108864 : Nat) : Int)
theorem digs_bd (N j : Nat) : 0 ≤ digs N j ∧ digs N j < 67108864 := by unfold digs; omega
theorem pw26 (k : Nat) : 2 ^ (26 * (k + 1)) = 2 ^ (26 * k) * 67108864 := by rw [Nat.mul_add, Nat.pow_add]
/-- a number of five digits -/
def V5 (f : Nat → Int) : Int := f 0 + 67108864 * f 1 + 4503599627370496 * f 2 + 302231454903657293676544 * f 3 + 20282409603651670423947251286016 * f 4
theorem V5_digs (N : Nat) (h : N < TT) : V5 (digs N) = N := by
  unfold V5 digs TT at *
  simp only [Nat.reduceMul, Nat.reducePow]
  omega
theorem digs_V5 (f : Nat → Int) (h : ∀ i, i < 5 → 0 ≤ f i ∧ f i < 67108864) : 0 ≤ V5 f ∧ (V5 f).toNat < TT ∧ ∀ i, i < 5 → f i = digs (V5 f).toNat i := by
  have h0 := h 0 (by decide); have h1 := h 1 (by decide); have h2 := h 2 (by decide); have h3 := h 3 (by decide); have h4 := h 4 (by decide)
  have k1 : ∀ i, i < 5 → i = 0 ∨ i = 1 ∨ i = 2 ∨ i = 3 ∨ i = 4 := by omega
  refine ⟨by unfold V5; omega, by unfold V5 TT; omega, fun i hi => ?_⟩
  rcases k1 i hi with rfl | rfl | rfl | rfl | rfl <;> (unfold digs V5; simp only [Nat.reduceMul, Nat.reducePow]; omega)
/-- a bit more: one digit turns -/
theorem digs_add (M s t : Nat) (ht : t < 26) (hM : M < 2 ^ (26 * s + t)) (j : Nat) : digs (M + 2 ^ (26 * s + t)) j = if j = s then digs M j + ((2 ^ t : Nat) : Int) else digs M j := by
  have pt : 2 ^ t ≤ 33554432 := by
    have := Nat.pow_le_pow_right (n := 2) (by decide) (show t ≤ 25 by omega)
    simpa using this
  have e : 2 ^ (26 * s + t) = 2 ^ t * 2 ^ (26 * s) := by rw [← Nat.pow_add, Nat.add_comm]
  by_cases h1 : j = s
  · subst h1
    rw [if_pos rfl]
    unfold digs
    have hM0 : 0 < 2 ^ (26 * j) := Nat.two_pow_pos _
    rw [e] at hM ⊢
    rw [Nat.add_mul_div_right _ _ hM0]
    have hd : M / 2 ^ (26 * j) < 2 ^ t := Nat.div_lt_of_lt_mul (Nat.lt_of_lt_of_eq hM (Nat.mul_comm _ _))
    generalize M / 2 ^ (26 * j) = d at *
    omega
  · rw [if_neg h1]
    unfold digs
    by_cases h2 : j < s
    · have e2 : 2 ^ (26 * s) = 2 ^ (26 * j) * (67108864 * 2 ^ (26 * (s - j - 1))) := by
        rw [show (67108864 : Nat) = 2 ^ 26 from rfl, ← Nat.pow_add, ← Nat.pow_add]; congr 1; omega
      rw [e, e2, show 2 ^ t * (2 ^ (26 * j) * (67108864 * 2 ^ (26 * (s - j - 1)))) = 2 ^ (26 * j) * (67108864 * (2 ^ (26 * (s - j - 1)) * 2 ^ t)) by grind, Nat.add_mul_div_left _ _ (Nat.two_pow_pos _), Nat.add_mul_mod_self_left]
    · have b1 : M + 2 ^ (26 * s + t) < 2 ^ (26 * j) := by
        have q1 : 2 ^ (26 * s + t + 1) ≤ 2 ^ (26 * j) := Nat.pow_le_pow_right (by decide) (by omega)
        rw [Nat.pow_succ] at q1
        omega
      rw [Nat.div_eq_of_lt b1, Nat.div_eq_of_lt (by omega)]
theorem digs_nums (M s t n : Nat) (ht : t < 26) (hM : M < 2 ^ (26 * s + t)) : nums .i64 (at1 (digs M) s (digs M s + ((2 ^ t : Nat) : Int))) n = nums .i64 (digs (M + 2 ^ (26 * s + t))) n := nums_congr _ fun j _ => by
  rw [digs_add M s t ht hM]
  unfold at1
  by_cases h : j = s
  · rw [if_pos h, if_pos h, h]
  · rw [if_neg h, if_neg h]
/-- the bits of a number, out of its bytes -/
theorem bit_of (f : Nat → Int) (n q r : Nat) (hq : q < n) (hr : r < 8) (h : ∀ j, j < n → inB (f j)) : f q / ((2 ^ r : Nat) : Int) % 2 = ((numB f n / 2 ^ (8 * q + r) % 2 : Nat) : Int) := by
  rw [← byt_numB f n q hq h]
  unfold byt
  rw [Nat.pow_add, show 2 ^ (8 * q) = 256 ^ q by rw [Nat.pow_mul], ← Nat.div_div_eq_div_mul]
  generalize numB f n / 256 ^ q = d
  rw [← Int.natCast_ediv]
  have e : d % 256 / 2 ^ r % 2 = d / 2 ^ r % 2 := by
    have e2 : 256 = 2 ^ r * (2 * 2 ^ (7 - r)) := by
      rw [← Nat.pow_succ', ← Nat.pow_add]; rw [show r + (7 - r + 1) = 8 by omega]
    rw [e2, Nat.mod_mul_right_div_self, Nat.mod_mul_right_mod]
  rw [← e]
  omega
theorem mod_next (N i : Nat) : N % 2 ^ (i + 1) = N % 2 ^ i + 2 ^ i * (N / 2 ^ i % 2) := by rw [Nat.pow_succ, nat_mod_mul]
theorem and1_u8 (x : Int) (h : inB x) : bits .and .u8 x 1 = x % 2 := by
  obtain ⟨a, rfl⟩ := Int.eq_ofNat_of_zero_le h.1
  have := h.2
  rw [show (1 : Int) = ((1 : Nat) : Int) from rfl, u8_and_nat a 1 (by omega) (by decide), Nat.and_one_is_mod]
  omega
theorem tdiv26 (s t : Nat) (h : t < 26) : ((26 * s + t : Nat) : Int).tdiv 26 = (s : Int) := by
  rw [Int.tdiv_eq_ediv_of_nonneg (by omega)]; omega
theorem tmod26 (s t : Nat) (h : t < 26) : ((26 * s + t : Nat) : Int).tmod 26 = (t : Int) := by
  rw [Int.tmod_eq_emod_of_nonneg (by omega)]; omega
attribute [local go_sem] nums_length

set_option maxHeartbeats 4000000 in
theorem digits_any (f : Nat → Int) (N : Nat) (hf : ∀ i, i < 17 → inB (f i)) (eN : numB f 17 = N) (hN : N < TT) (w : World) :
    Calls Tryd.prog 41 #[(.agg (nums .u8 f 17).toArray)] w fun e w' => e = .returned (.agg (nums .i64 (digs N) 5).toArray) ∧ Below w.heap.size w w' := by
  have FB := Lib.hid hf; have HT := Lib.hid hN; have EN := Lib.hid eN
  clear hf hN eN
  go_enter Tryd.func41, Tryd.ntmps41
  go_upto_region 2 with fail
  obtain ⟨W0, hW⟩ : ∃ W0, W0 = (((w.alloc (.cells (nums .u8 f 17).toArray 61)).alloc (.cells #[.int .i64 0, .int .i64 0, .int .i64 0, .int .i64 0, .int .i64 0] 62)).alloc (.cells #[.int .i64 0, .int .i64 0, .int .i64 0, .int .i64 0, .int .i64 0] 62)) := ⟨_, rfl⟩
  have hB0 : Below w.heap.size w W0 := hW ▸ (Below.al (Below.al (Below.al (Below.refl _ _))))
  have HX : Hid (Own w.heap.size (nums .u8 f 17) W0) := Lib.hid (hW ▸ (show Own w.heap.size (nums .u8 f 17) (w.alloc (.cells (nums .u8 f 17).toArray 61)) from Own.newAt (by simp)).alloc.alloc)
  have HR : Hid (Own (w.heap.size + 1) (nums .i64 (fun _ => 0) 5) W0) := Lib.hid (hW ▸ (show Own (w.heap.size + 1) (nums .i64 (fun _ => 0) 5) ((w.alloc (.cells (nums .u8 f 17).toArray 61)).alloc (.cells #[.int .i64 0, .int .i64 0, .int .i64 0, .int .i64 0, .int .i64 0] 62)) from Own.newAt (by simp)).alloc)
  have HQ : Hid (Own ((w.heap.size + 1) + 1) (nums .i64 (fun _ => 0) 5) W0) := Lib.hid (hW ▸ (show Own ((w.heap.size + 1) + 1) (nums .i64 (fun _ => 0) 5) (((w.alloc (.cells (nums .u8 f 17).toArray 61)).alloc (.cells #[.int .i64 0, .int .i64 0, .int .i64 0, .int .i64 0, .int .i64 0] 62)).alloc (.cells #[.int .i64 0, .int .i64 0, .int .i64 0, .int .i64 0, .int .i64 0] 62)) from Own.newAt (by simp)))
  rw [← hW]
  clear hW
  obtain ⟨Q, eQ⟩ : ∃ X, X = ((w.heap.size + 1) + 1) := ⟨_, rfl⟩
  rw [← eQ] at HQ ⊢
  have Qw : w.heap.size ≤ Q := by omega
  obtain ⟨R, eR⟩ : ∃ X, X = (w.heap.size + 1) := ⟨_, rfl⟩
  rw [← eR] at HR ⊢
  have Rw : w.heap.size ≤ R := by omega
  obtain ⟨X, eX⟩ : ∃ X, X = w.heap.size := ⟨_, rfl⟩
  rw [← eX] at HX ⊢
  have Xw : w.heap.size ≤ X := by omega
  have nXR : X ≠ R := by omega
  have nRX : R ≠ X := by omega
  have nXQ : X ≠ Q := by omega
  have nQX : Q ≠ X := by omega
  have nRQ : R ≠ Q := by omega
  have nQR : Q ≠ R := by omega
  clear eX eR eQ
  go_wp2_with (fail)
  go_loopw [4] (fun iv wr => ∃ (i : Nat), i ≤ 136 ∧ iv = .int .i64 i ∧ Hid (Below w.heap.size w wr) ∧ Hid (Own X (nums .u8 f 17) wr) ∧ Hid (Own Q (nums .i64 (digs (N % 2 ^ i)) 5) wr) ∧ Hid (Own R (nums .i64 (fun _ => 0) 5) wr)) (fun iv _ => (136 - (intOf iv).toNat))
  case atStart => exact ⟨0, by omega, rfl, Lib.hid hB0, HX, Lib.hid (by rw [show nums .i64 (digs (N % 2 ^ 0)) 5 = nums .i64 (fun _ => 0) 5 from nums_congr _ fun j _ => by simp [digs, Nat.mod_one]]; exact HQ.out), HR⟩
  case round =>
    clear HX HQ HR hB0
    obtain ⟨i, hi, rfl, HB, HX, HQ, HR⟩ := hrel
    by_cases hlt : i < 136
    · obtain ⟨q, r, hr, ei⟩ : ∃ q r, r < 8 ∧ i = 8 * q + r := ⟨i / 8, i % 8, by omega, by omega⟩
      have hq : q < 17 := by omega
      have hd := tdiv8 q r hr
      have hm := tmod8 q r hr
      have x0 := HX.out.at q _ (nums_at _ _ hq)
      have bo := bit_of f 17 q r hq hr FB.out
      rw [EN.out] at bo
      have bx := FB.out q hq
      have mn := mod_next N i
      have MN := Lib.hid mn
      rw [← ei] at bo hd hm
      obtain ⟨x, ex⟩ : ∃ x, f q = x := ⟨_, rfl⟩
      rw [ex] at x0 bo bx
      have pr : 0 < 2 ^ r := Nat.two_pow_pos _
      have y0 : 0 ≤ x / ((2 ^ r : Nat) : Int) := Int.ediv_nonneg bx.1 (by omega)
      have y1 : x / ((2 ^ r : Nat) : Int) ≤ x := Int.ediv_le_self _ bx.1
      obtain ⟨y, ey⟩ : ∃ y, x / ((2 ^ r : Nat) : Int) = y := ⟨_, rfl⟩
      rw [ey] at bo y0 y1
      have sh1 : x / 2 ^ (r : Int).toNat = y := by rw [← ey]; simp
      have sh2 : x / 2 ^ r = y := by rw [← ey]; simp
      have sh3 : x / 2 ^ min r 8 = y := by rw [Nat.min_eq_left (by omega)]; exact sh2
      have wy : IntKind.u8.wrap y = y := by unfold inB at bx; rw [IntKind.wrap_u8']; omega
      have an := and1_u8 y (by unfold inB at *; omega)
      have w1 : IntKind.i64.wrap (q : Int) = (q : Int) := IntWalk.i64_in _ (by omega)
      have w2 : IntKind.i64.wrap (r : Int) = (r : Int) := IntWalk.i64_in _ (by omega)
      have q0 : (0 : Int) ≤ (q : Int) := by omega
      have q17 : (q : Int) < 17 := by omega
      have r0 : (0 : Int) ≤ (r : Int) := by omega
      have i1 : (i : Int) < 136 := by omega
      have i63 : IntKind.i64.wrap ((i : Int) + 1) = (i : Int) + 1 := IntWalk.i64_in _ (by omega)
      have Xl := HX.out.lt
      have b01 : N / 2 ^ i % 2 = 0 ∨ N / 2 ^ i % 2 = 1 := by omega
      have EI := Lib.hid ei
      have HLT := Lib.hid hlt
      clear bx y0 y1 ey ex mn hi ei hr hq pr
      rcases b01 with b0 | b1
      · have an0 : bits .and .u8 y 1 = 0 := by rw [an, bo, b0]; rfl
        clear an
        have SM : Hid (nums .i64 (digs (N % 2 ^ i)) 5 = nums .i64 (digs (N % 2 ^ (i + 1))) 5) := Lib.hid (by rw [MN.out, b0, Nat.mul_zero, Nat.add_zero])
        have HQ2 := Lib.hid (SM.out ▸ HQ.out)
        clear b0 bo HQ SM hlt
        go_wp2_with (fail)
        go_roundw
        case rel => (first | exact ⟨i + 1, HLT.out, by go_num, HB, HX, HQ2, HR⟩ | ((repeat apply Exists.intro); exact ⟨⟨i + 1, HLT.out, by go_num, HB, HX, HQ2, HR⟩, rfl⟩))
        case measure => (have := HLT.out; simp [intOf]; omega)
      · have an1 : bits .and .u8 y 1 = 1 := by rw [an, bo, b1]; rfl
        clear an
        have hML : N % 2 ^ i < 2 ^ i := Nat.mod_lt _ (Nat.two_pow_pos _)
        have i130 : i < 130 := by
          rcases Nat.lt_or_ge i 130 with h | h
          · exact h
          · exfalso
            have : 2 ^ 130 ≤ 2 ^ i := Nat.pow_le_pow_right (by decide) h
            have h2 := HT.out
            rw [Nat.div_eq_of_lt (show N < 2 ^ i by unfold TT at h2; omega)] at b1
            omega
        obtain ⟨s, t_, ht, est⟩ : ∃ s t, t < 26 ∧ i = 26 * s + t := ⟨i / 26, i % 26, by omega, by omega⟩
        have s5 : s < 5 := by omega
        have h26 := tdiv26 s t_ ht
        have m26 := tmod26 s t_ ht
        rw [← est] at h26 m26
        have DN := digs_nums (N % 2 ^ i) s t_ 5 ht (by rw [← est]; exact hML)
        rw [← est, show N % 2 ^ i + 2 ^ i = N % 2 ^ (i + 1) by rw [MN.out, b1, Nat.mul_one]] at DN
        have pt : 2 ^ t_ ≤ 33554432 := by
          have := Nat.pow_le_pow_right (n := 2) (by decide) (show t_ ≤ 25 by omega)
          simpa using this
        have d0 := HQ.out.at s _ (nums_at _ _ s5)
        have df := HQ.out.ok s (by rw [nums_length]; exact s5)
        have Ql := HQ.out.lt
        have bd := digs_bd (N % 2 ^ i) s
        obtain ⟨a_, ea⟩ : ∃ a_, digs (N % 2 ^ i) s = a_ := ⟨_, rfl⟩
        rw [ea] at d0 DN bd
        obtain ⟨p_, ep⟩ : ∃ p_, ((2 ^ t_ : Nat) : Int) = p_ := ⟨_, rfl⟩
        rw [ep] at DN
        have ep2 : (2 : Int) ^ t_ = p_ := by rw [← ep]; simp
        have ep4 : (2 : Int) ^ min t_ 64 = p_ := by rw [Nat.min_eq_left (by omega)]; exact ep2
        have ep3 : (2 : Int) ^ (t_ : Int).toNat = p_ := by rw [← ep]; simp
        have pb : 0 ≤ p_ ∧ p_ ≤ 33554432 := ⟨ep ▸ Int.natCast_nonneg _, ep ▸ Int.ofNat_le.2 pt⟩
        have wp : IntKind.i64.wrap p_ = p_ := IntWalk.i64_in _ (by omega)
        have wp1 : IntKind.i64.wrap (1 * p_) = p_ := by rw [Int.one_mul]; exact wp
        obtain ⟨z, ez⟩ : ∃ z, a_ + p_ = z := ⟨_, rfl⟩
        rw [ez] at DN
        have wz : IntKind.i64.wrap z = z := IntWalk.i64_in _ (by omega)
        have wz2 : wrap64 z = z := by unfold wrap64; omega
        have wp2 : wrap64 p_ = p_ := by unfold wrap64; omega
        have w3 : IntKind.i64.wrap (s : Int) = (s : Int) := IntWalk.i64_in _ (by omega)
        have w4 : IntKind.i64.wrap (t_ : Int) = (t_ : Int) := IntWalk.i64_in _ (by omega)
        have s0 : (0 : Int) ≤ (s : Int) := by omega
        have s5i : (s : Int) < 5 := by omega
        have t0 : (0 : Int) ≤ (t_ : Int) := by omega
        have i13 : (i : Int) < 130 := by omega
        have DN2 := Lib.hid DN
        have S5 := Lib.hid s5
        clear b1 bo hlt hML i130 ht est pt pb bd ea ep DN s5
        go_wp2_with (fail)
        refine wp_region_still_tail 11 (by kernel_rfl) (by kernel_rfl) ?_; simp only [List.take_succ_cons, List.take_zero, List.drop_succ_cons, List.drop_zero]; change wpStill _ _ (World.drew _) (fun a1 => wpList _ _ _ _ a1 (World.drew _)) _ _; repeat still_step
        refine wpStill_nil ?_
        have o1 := Lib.hid (DN2.out ▸ own_set (v := z) HQ.out.drew S5.out)
        have o2 := Lib.hid (Own.far (c := Q) (o := s) (vs := [.int .i64 z]) HX.out.drew nXQ)
        have o3 := Lib.hid (Own.far (c := Q) (o := s) (vs := [.int .i64 z]) HR.out.drew nRQ)
        have o4 := Lib.hid (Below.setCells HB.out.drew Qw [.int .i64 z] s)
        clear HQ HX HR HB DN2
        go_wp2_with (fail)
        go_roundw
        case rel => (first | exact ⟨i + 1, HLT.out, by go_num, o4, o2, o1, o3⟩ | ((repeat apply Exists.intro); exact ⟨⟨i + 1, HLT.out, by go_num, o4, o2, o1, o3⟩, rfl⟩))
        case measure => (have := HLT.out; simp [intOf]; omega)
    · have e4 : i = 136 := by omega
      subst e4
      rw [show N % 2 ^ 136 = N from Nat.mod_eq_of_lt (by have := HT.out; unfold TT at this; omega)] at HQ
      go_upto_region 7 with fail
      have hB0 := HB.out
      refine wp_region_lit ?_
      refine wpList_load_mid rfl 62 _ rfl Q 0 rfl (nums .i64 (digs N) 5) _ HQ.out.cell Tryd.underlying62 rfl (by kernel_rfl) ?_
      refine wpList_store_mid rfl 62 _ _ rfl R 0 (nums .i64 (digs N) 5).toArray rfl rfl HR.out.free (by kernel_rfl) (nums_all _ _ _) ?_
      change wpList _ _ _ [] _ (wr.setCells R 0 (nums .i64 (digs N) 5))
      have HRn : Hid (Own R (nums .i64 (digs N) 5) (wr.setCells R 0 (nums .i64 (digs N) 5))) := Lib.hid (Own.store HR.out (by simp [nums_length]))
      have HQn : Hid (Own Q (nums .i64 (digs N) 5) (wr.setCells R 0 (nums .i64 (digs N) 5))) := Lib.hid (Own.far (o := 0) (vs := (nums .i64 (digs N) 5)) HQ.out nQR)
      have hB0n : Below w.heap.size w (wr.setCells R 0 (nums .i64 (digs N) 5)) := Below.setCells hB0 Rw (nums .i64 (digs N) 5) 0
      clear HR HQ hB0
      generalize (wr.setCells R 0 (nums .i64 (digs N) 5)) = wz at *
      have HR := HRn
      clear HRn
      have HQ := HQn
      clear HQn
      have hB0 := hB0n
      clear hB0n
      go_wp2_with (fail)
      have hL := run_loadVar_mid (P := Tryd.prog) _ R 0 62 (nums .i64 (digs N) 5) _ HR.out.cell Tryd.underlying62 rfl (by kernel_rfl)
      exact bodyPost_ret (v := .agg (nums .i64 (digs N) 5).toArray) (res_cell Tryd.results41 rfl hL) rfl ⟨rfl, hB0⟩
end Go.Proofs.YtjkeaiihjbcfgaaDoor

/- NN -/
namespace Go.Proofs.YtjkeaiihjbcfgaaDoor
set_option linter.unusedVariables false
set_option maxRecDepth 2000
set_option linter.unusedSimpArgs false
open Go.RowKit
/-- one step of a round of carrying -/
def stepC (f : Nat → Int) (i : Nat) : Nat → Int :=
  if i < 4 then at1 (at1 f i (f i - f i / 67108864 * 67108864)) (i + 1) (f (i + 1) + f i / 67108864)
  else at1 (at1 f i (f i - f i / 67108864 * 67108864)) 0 (f 0 + 5 * (f i / 67108864))
def itC (f : Nat → Int) : Nat → Nat → Int
  | 0 => f
  | i + 1 => stepC (itC f i) i
def itR (f : Nat → Int) : Nat → Nat → Int
  | 0 => f
  | r + 1 => itC (itR f r) 5
/-- how great digits may be at the i-th step -/
def invC (i : Nat) (g : Nat → Int) : Prop := (∀ j, j < 5 → 0 ≤ g j) ∧ (∀ j, j < 5 → i < j → g j ≤ 2305843009213693952) ∧ (i < 5 → g i ≤ 2305843077933170688) ∧ (∀ j, j < 5 → j < i → g j ≤ if i < 5 then 67108863 else 1099511627776)
theorem invC_start {g : Nat → Int} (h : ∀ j, j < 5 → 0 ≤ g j ∧ g j ≤ 2305843009213693952) : invC 0 g := ⟨fun j hj => (h j hj).1, fun j hj _ => (h j hj).2, fun _ => by have := (h 0 (by decide)).2; omega, fun j _ hj => by omega⟩
theorem invC_step {g : Nat → Int} {i : Nat} (hi : i < 5) (h : invC i g) : invC (i + 1) (stepC g i) := by
  obtain ⟨h1, h2, h3, h4⟩ := h
  have x0 := h1 i hi
  have x1 := h3 hi
  unfold stepC
  by_cases e : i < 4
  · rw [if_pos e]
    have y0 := h1 (i + 1) (by omega)
    have y1 := h2 (i + 1) (by omega) (by omega)
    refine ⟨fun j hj => ?_, fun j hj hij => ?_, fun _ => ?_, fun j hj hij => ?_⟩
    · unfold at1
      split
      · omega
      · split
        · omega
        · exact h1 j hj
    · unfold at1
      rw [if_neg (by omega), if_neg (by omega)]
      exact h2 j hj (by omega)
    · unfold at1
      rw [if_pos rfl]
      omega
    · rw [if_pos (by omega)]
      unfold at1
      rw [if_neg (by omega)]
      split
      · omega
      · have := h4 j hj (by omega)
        rwa [if_pos hi] at this
  · rw [if_neg e]
    obtain rfl : i = 4 := by omega
    have y0 := h1 0 (by decide)
    have y1 := h4 0 (by decide) (by decide)
    rw [if_pos (by decide)] at y1
    refine ⟨fun j hj => ?_, fun j hj hij => by omega, fun h => by omega, fun j hj hij => ?_⟩
    · unfold at1
      split
      · omega
      · split
        · omega
        · exact h1 j hj
    · rw [if_neg (by decide)]
      unfold at1
      split
      · omega
      · split
        · omega
        · have := h4 j hj (by omega)
          rw [if_pos (by decide)] at this
          omega
theorem stepC_nums (g : Nat → Int) (i : Nat) (h : i < 4) (m s : Int) (hm : m = g i - g i / 67108864 * 67108864) (hs : s = g (i + 1) + g i / 67108864) : nums .i64 (at1 (at1 g i m) (i + 1) s) 5 = nums .i64 (stepC g i) 5 := by
  unfold stepC; rw [if_pos h, hm, hs]
theorem stepC_nums4 (g : Nat → Int) (m s : Int) (hm : m = g 4 - g 4 / 67108864 * 67108864) (hs : s = g 0 + 5 * (g 4 / 67108864)) : nums .i64 (at1 (at1 g 4 m) 0 s) 5 = nums .i64 (stepC g 4) 5 := by
  unfold stepC; rw [if_neg (by decide), hm, hs]
theorem invC_end {g : Nat → Int} (h : invC 5 g) : invC 0 g := invC_start fun j hj => ⟨h.1 j hj, by have := h.2.2.2 j hj hj; rw [if_neg (by decide)] at this; omega⟩
attribute [local go_sem] nums_length

set_option maxHeartbeats 4000000 in
theorem carried_any (f : Nat → Int) (hf : ∀ j, j < 5 → 0 ≤ f j ∧ f j ≤ 2305843009213693952) (w : World) :
    Calls Tryd.prog 44 #[(.agg (nums .i64 f 5).toArray)] w fun e w' => e = .returned (.agg (nums .i64 (itR f 3) 5).toArray) ∧ Below w.heap.size w w' := by
  have I0 := Lib.hid (invC_start hf)
  clear hf
  go_enter Tryd.func44, Tryd.ntmps44
  go_upto_region 1 with fail
  obtain ⟨W0, hW⟩ : ∃ W0, W0 = ((w.alloc (.cells (nums .i64 f 5).toArray 62)).alloc (.cells #[.int .i64 0, .int .i64 0, .int .i64 0, .int .i64 0, .int .i64 0] 62)) := ⟨_, rfl⟩
  have hB0 : Below w.heap.size w W0 := hW ▸ (Below.al (Below.al (Below.refl _ _)))
  have HX : Hid (Own w.heap.size (nums .i64 f 5) W0) := Lib.hid (hW ▸ (show Own w.heap.size (nums .i64 f 5) (w.alloc (.cells (nums .i64 f 5).toArray 62)) from Own.newAt (by simp)).alloc)
  have HR : Hid (Own (w.heap.size + 1) (nums .i64 (fun _ => 0) 5) W0) := Lib.hid (hW ▸ (show Own (w.heap.size + 1) (nums .i64 (fun _ => 0) 5) ((w.alloc (.cells (nums .i64 f 5).toArray 62)).alloc (.cells #[.int .i64 0, .int .i64 0, .int .i64 0, .int .i64 0, .int .i64 0] 62)) from Own.newAt (by simp)))
  rw [← hW]
  clear hW
  obtain ⟨R, eR⟩ : ∃ X, X = (w.heap.size + 1) := ⟨_, rfl⟩
  rw [← eR] at HR ⊢
  have Rw : w.heap.size ≤ R := by omega
  obtain ⟨X, eX⟩ : ∃ X, X = w.heap.size := ⟨_, rfl⟩
  rw [← eX] at HX ⊢
  have Xw : w.heap.size ≤ X := by omega
  have nXR : X ≠ R := by omega
  have nRX : R ≠ X := by omega
  clear eX eR
  go_wp2_with (fail)
  go_loopw [3] (fun rv wr => ∃ (r_ : Nat), r_ ≤ 3 ∧ rv = .int .i64 r_ ∧ Hid (Below w.heap.size w wr) ∧ Hid (Own X (nums .i64 (itR f r_) 5) wr) ∧ Hid (Own R (nums .i64 (fun _ => 0) 5) wr) ∧ Hid (invC 0 (itR f r_))) (fun rv _ => (3 - (intOf rv).toNat))
  case atStart => exact ⟨0, by decide, rfl, Lib.hid hB0, HX, HR, I0⟩
  case round =>
    clear HX HR hB0 I0
    obtain ⟨r_, hr, rfl, HB, HX, HR, INV⟩ := hrel
    by_cases hlt : r_ < 3
    · have r3 : (r_ : Int) < 3 := by omega
      have wr1 : IntKind.i64.wrap ((r_ : Int) + 1) = (r_ : Int) + 1 := IntWalk.i64_in _ (by omega)
      have EG := Lib.hid (show itR f (r_ + 1) = itC (itR f r_) 5 from rfl)
      have HLT := Lib.hid hlt
      generalize itR f r_ = g at *
      clear hr hlt
      go_wp2_with (fail)
      go_loopw [4] (fun iv ws => ∃ (i : Nat), i ≤ 5 ∧ iv = .int .i64 i ∧ Hid (Below w.heap.size w ws) ∧ Hid (Own X (nums .i64 (itC g i) 5) ws) ∧ Hid (Own R (nums .i64 (fun _ => 0) 5) ws) ∧ Hid (invC i (itC g i))) (fun iv _ => (5 - (intOf iv).toNat))
      case atStart => exact ⟨0, by decide, rfl, HB, HX, HR, INV⟩
      case round =>
        clear HB HX HR INV
        obtain ⟨i, hi, rfl, HB, HX, HR, INV⟩ := hrel
        by_cases h5 : i < 5
        · have x0 := HX.out.at i _ (nums_at _ _ h5)
          have xf := HX.out.ok i (by rw [nums_length]; exact h5)
          have Xl := HX.out.lt
          have a0 := INV.out.1 i h5
          have a1 := INV.out.2.2.1 h5
          obtain ⟨x, ex⟩ : ∃ x, itC g i i = x := ⟨_, rfl⟩
          rw [ex] at x0 a0 a1
          have i0 : (0 : Int) ≤ (i : Int) := by omega
          have i5 : (i : Int) < 5 := by omega
          by_cases h4 : i < 4
          ·
            have y0 := HX.out.at (i + 1) _ (nums_at _ _ (by omega))
            have yf := HX.out.ok (i + 1) (by rw [nums_length]; omega)
            have b1 := INV.out.1 (i + 1) (by omega)
            have b2 := INV.out.2.1 (i + 1) (by omega) (by omega)
            obtain ⟨y, ey⟩ : ∃ y, itC g i (i + 1) = y := ⟨_, rfl⟩
            rw [ey] at y0 b1 b2
            obtain ⟨c, ec⟩ : ∃ c, x / 67108864 = c := ⟨_, rfl⟩
            obtain ⟨k_, ek⟩ : ∃ k, c * 67108864 = k := ⟨_, rfl⟩
            obtain ⟨m_, em⟩ : ∃ m, x - k_ = m := ⟨_, rfl⟩
            have wk : IntKind.i64.wrap k_ = k_ := IntWalk.i64_in _ (by omega)
            have wk2 : wrap64 k_ = k_ := by unfold wrap64; omega
            have wm : IntKind.i64.wrap m_ = m_ := IntWalk.i64_in _ (by omega)
            obtain ⟨s, es⟩ : ∃ s, y + c = s := ⟨_, rfl⟩
            have ws : IntKind.i64.wrap s = s := IntWalk.i64_in _ (by omega)
            have SN := stepC_nums (itC g i) i h4 m_ s (by rw [ex, ec, ek, em]) (by rw [ex, ey, ec, es])
            rw [show stepC (itC g i) i = itC g (i + 1) from rfl] at SN
            have o1 := own_set (i := (i + 1)) (v := s) (own_set (i := i) (v := m_) HX.out (by omega)) (by omega)
            rw [SN] at o1
            have O1 := Lib.hid o1
            have O2 := Lib.hid (Own.far (o := (i + 1)) (vs := [.int .i64 s]) (Own.far (o := i) (vs := [.int .i64 m_]) HR.out nRX) nRX)
            have O3 := Lib.hid (Below.setCells (Below.setCells HB.out Xw [.int .i64 m_] i) Xw [.int .i64 s] (i + 1))
            have O4 : Hid (invC (i + 1) (itC g (i + 1))) := Lib.hid (invC_step (by omega) INV.out)
            clear ex ey SN b1 b2 a0 a1 INV HX HR HB o1
            have h4i : (i : Int) < 4 := by omega
            have w1 : IntKind.i64.wrap ((i : Int) + 1) = ((i + 1 : Nat) : Int) := by rw [IntWalk.i64_in _ (by omega)]; omega
            obtain ⟨n_, en⟩ : ∃ n : Nat, i + 1 = n := ⟨_, rfl⟩
            have nei : ¬ i = n_ := by omega
            have nei2 : ¬ n_ = i := by omega
            have n0 : (0 : Int) ≤ (n_ : Int) := by omega
            have n5 : (n_ : Int) < 5 := by omega
            have n5b : n_ ≤ 5 := by omega
            have HIN := Lib.hid (show i < n_ by omega)
            rw [en] at y0 yf w1 O1 O2 O3 O4
            clear en h4 h5 hi
            go_wp2_with (fail)
            go_roundw
            case rel => (first | exact ⟨n_, n5b, rfl, O3, O1, O2, O4⟩ | ((repeat apply Exists.intro); exact ⟨⟨n_, n5b, rfl, O3, O1, O2, O4⟩, rfl⟩))
            case measure => (have := HIN.out; simp [intOf]; omega)
          · obtain rfl : i = 4 := by omega
            clear hi h5 h4 i0 i5
            have y0 := HX.out.at 0 _ (nums_at _ _ (by omega))
            have yf := HX.out.ok 0 (by rw [nums_length]; omega)
            have b1 := INV.out.1 0 (by omega)
            have b2 := INV.out.2.2.2 0 (by decide) (by decide)
            rw [if_pos (by decide)] at b2
            obtain ⟨y, ey⟩ : ∃ y, itC g 4 0 = y := ⟨_, rfl⟩
            rw [ey] at y0 b1 b2
            obtain ⟨c, ec⟩ : ∃ c, x / 67108864 = c := ⟨_, rfl⟩
            obtain ⟨k_, ek⟩ : ∃ k, c * 67108864 = k := ⟨_, rfl⟩
            obtain ⟨m_, em⟩ : ∃ m, x - k_ = m := ⟨_, rfl⟩
            have wk : IntKind.i64.wrap k_ = k_ := IntWalk.i64_in _ (by omega)
            have wk2 : wrap64 k_ = k_ := by unfold wrap64; omega
            have wm : IntKind.i64.wrap m_ = m_ := IntWalk.i64_in _ (by omega)
            obtain ⟨d_, ed⟩ : ∃ d, 5 * c = d := ⟨_, rfl⟩
            have wd : IntKind.i64.wrap d_ = d_ := IntWalk.i64_in _ (by omega)
            obtain ⟨s, es⟩ : ∃ s, y + d_ = s := ⟨_, rfl⟩
            have ws : IntKind.i64.wrap s = s := IntWalk.i64_in _ (by omega)
            have SN := stepC_nums4 (itC g 4) m_ s (by rw [ex, ec, ek, em]) (by rw [ex, ey, ec, ed, es])
            rw [show stepC (itC g 4) 4 = itC g (4 + 1) from rfl] at SN
            have o1 := own_set (i := 0) (v := s) (own_set (i := 4) (v := m_) HX.out (by omega)) (by omega)
            rw [SN] at o1
            have O1 := Lib.hid o1
            have O2 := Lib.hid (Own.far (o := 0) (vs := [.int .i64 s]) (Own.far (o := 4) (vs := [.int .i64 m_]) HR.out nRX) nRX)
            have O3 := Lib.hid (Below.setCells (Below.setCells HB.out Xw [.int .i64 m_] 4) Xw [.int .i64 s] 0)
            have O4 : Hid (invC (4 + 1) (itC g (4 + 1))) := Lib.hid (invC_step (by omega) INV.out)
            clear ex ey SN b1 b2 a0 a1 INV HX HR HB o1
            go_wp2_with (fail)
            go_roundw
            case rel => (first | exact ⟨5, by decide, rfl, O3, O1, O2, O4⟩ | ((repeat apply Exists.intro); exact ⟨⟨5, by decide, rfl, O3, O1, O2, O4⟩, rfl⟩))
            case measure => simp [intOf]
        · have e5 : i = 5 := by omega
          subst e5
          have HX2 := Lib.hid (EG.out ▸ HX.out)
          have I2 := Lib.hid (EG.out ▸ invC_end INV.out)
          clear HX INV hi h5
          go_wp2_with (fail)
          go_roundw
          case rel => (first | exact ⟨r_ + 1, HLT.out, by go_num, HB, HX2, HR, I2⟩ | ((repeat apply Exists.intro); exact ⟨⟨r_ + 1, HLT.out, by go_num, HB, HX2, HR, I2⟩, rfl⟩))
          case measure => (have := HLT.out; simp [intOf]; omega)
    · have e3 : r_ = 3 := by omega
      subst e3
      go_upto_region 12 with fail
      have hB0 := HB.out
      refine wp_region_lit ?_
      refine wpList_load_mid rfl 62 _ rfl X 0 rfl (nums .i64 (itR f 3) 5) _ HX.out.cell Tryd.underlying62 rfl (by kernel_rfl) ?_
      refine wpList_store_mid rfl 62 _ _ rfl R 0 (nums .i64 (itR f 3) 5).toArray rfl rfl HR.out.free (by kernel_rfl) (nums_all _ _ _) ?_
      change wpList _ _ _ [] _ (wr.setCells R 0 (nums .i64 (itR f 3) 5))
      have HRn : Hid (Own R (nums .i64 (itR f 3) 5) (wr.setCells R 0 (nums .i64 (itR f 3) 5))) := Lib.hid (Own.store HR.out (by simp [nums_length]))
      have HXn : Hid (Own X (nums .i64 (itR f 3) 5) (wr.setCells R 0 (nums .i64 (itR f 3) 5))) := Lib.hid (Own.far (o := 0) (vs := (nums .i64 (itR f 3) 5)) HX.out nXR)
      have hB0n : Below w.heap.size w (wr.setCells R 0 (nums .i64 (itR f 3) 5)) := Below.setCells hB0 Rw (nums .i64 (itR f 3) 5) 0
      clear HR HX hB0
      generalize (wr.setCells R 0 (nums .i64 (itR f 3) 5)) = wz at *
      have HR := HRn
      clear HRn
      have HX := HXn
      clear HXn
      have hB0 := hB0n
      clear hB0n
      go_wp2_with (fail)
      have hL := run_loadVar_mid (P := Tryd.prog) _ R 0 62 (nums .i64 (itR f 3) 5) _ HR.out.cell Tryd.underlying62 rfl (by kernel_rfl)
      exact bodyPost_ret (v := .agg (nums .i64 (itR f 3) 5).toArray) (res_cell Tryd.results44 rfl hL) rfl ⟨rfl, hB0⟩
end Go.Proofs.YtjkeaiihjbcfgaaDoor

/- NO -/
namespace Go.Proofs.YtjkeaiihjbcfgaaDoor
set_option linter.unusedVariables false
set_option maxRecDepth 2000
set_option linter.unusedSimpArgs false
open Go.RowKit
theorem round_parts (g : Nat → Int) : ∃ c0 t1 c1 t2 c2 t3 c3 t4 c4 : Int, c0 = g 0 / 67108864 ∧ t1 = g 1 + c0 ∧ c1 = t1 / 67108864 ∧ t2 = g 2 + c1 ∧ c2 = t2 / 67108864 ∧ t3 = g 3 + c2 ∧ c3 = t3 / 67108864 ∧ t4 = g 4 + c3 ∧ c4 = t4 / 67108864 ∧
    itC g 5 0 = g 0 - c0 * 67108864 + 5 * c4 ∧ itC g 5 1 = t1 - c1 * 67108864 ∧ itC g 5 2 = t2 - c2 * 67108864 ∧ itC g 5 3 = t3 - c3 * 67108864 ∧ itC g 5 4 = t4 - c4 * 67108864 :=
  ⟨_, _, _, _, _, _, _, _, _, rfl, rfl, rfl, rfl, rfl, rfl, rfl, rfl, rfl, rfl, rfl, rfl, rfl, rfl⟩
/-- a round takes away the prime a few times -/
theorem round_V5 (g : Nat → Int) : ∃ c : Int, V5 (itC g 5) = V5 g - 1361129467683753853853498429727072845819 * c := by
  obtain ⟨c0, t1, c1, t2, c2, t3, c3, t4, c4, e0, e1, e2, e3, e4, e5, e6, e7, e8, h0, h1, h2, h3, h4⟩ := round_parts g
  refine ⟨c4, ?_⟩
  unfold V5
  rw [h0, h1, h2, h3, h4]
  omega
theorem five {P : Nat → Prop} (h0 : P 0) (h1 : P 1) (h2 : P 2) (h3 : P 3) (h4 : P 4) : ∀ j, j < 5 → P j := fun j hj => by
  have : j = 0 ∨ j = 1 ∨ j = 2 ∨ j = 3 ∨ j = 4 := by omega
  rcases this with rfl | rfl | rfl | rfl | rfl <;> assumption
/-- three rounds make digits -/
theorem carry_digits (f : Nat → Int) (hf : ∀ j, j < 5 → 0 ≤ f j ∧ f j ≤ 2305843009213693952) : ∀ j, j < 5 → 0 ≤ itR f 3 j ∧ itR f 3 j < 67108864 := by
  have r1 : ∀ j, j < 5 → 0 ≤ itR f 1 j ∧ itR f 1 j ≤ if j = 0 then 549755813888 else 67108863 := by
    obtain ⟨c0, t1, c1, t2, c2, t3, c3, t4, c4, e0, e1, e2, e3, e4, e5, e6, e7, e8, h0, h1, h2, h3, h4⟩ := round_parts f
    have q0 := hf 0 (by decide); have q1 := hf 1 (by decide); have q2 := hf 2 (by decide); have q3 := hf 3 (by decide); have q4 := hf 4 (by decide)
    show ∀ j, j < 5 → 0 ≤ itC f 5 j ∧ itC f 5 j ≤ _
    refine five ?_ ?_ ?_ ?_ ?_
    · rw [h0, if_pos rfl]; omega
    · rw [h1, if_neg (by decide)]; omega
    · rw [h2, if_neg (by decide)]; omega
    · rw [h3, if_neg (by decide)]; omega
    · rw [h4, if_neg (by decide)]; omega
  have r2 : ∀ j, j < 5 → 0 ≤ itR f 2 j ∧ itR f 2 j ≤ if j = 0 then 67108868 else 67108863 := by
    have e : itR f 2 = itC (itR f 1) 5 := rfl
    rw [e]
    clear e
    generalize itR f 1 = g at *
    have q0 := r1 0 (by decide); have q1 := r1 1 (by decide); have q2 := r1 2 (by decide); have q3 := r1 3 (by decide); have q4 := r1 4 (by decide)
    rw [if_pos rfl] at q0
    rw [if_neg (by decide)] at q1 q2 q3 q4
    obtain ⟨c0, t1, c1, t2, c2, t3, c3, t4, c4, e0, e1, e2, e3, e4, e5, e6, e7, e8, h0, h1, h2, h3, h4⟩ := round_parts g
    refine five ?_ ?_ ?_ ?_ ?_
    · rw [h0, if_pos rfl]; omega
    · rw [h1, if_neg (by decide)]; omega
    · rw [h2, if_neg (by decide)]; omega
    · rw [h3, if_neg (by decide)]; omega
    · rw [h4, if_neg (by decide)]; omega
  have e : itR f 3 = itC (itR f 2) 5 := rfl
  rw [e]
  clear e
  generalize itR f 2 = g at *
  have q0 := r2 0 (by decide); have q1 := r2 1 (by decide); have q2 := r2 2 (by decide); have q3 := r2 3 (by decide); have q4 := r2 4 (by decide)
  rw [if_pos rfl] at q0
  rw [if_neg (by decide)] at q1 q2 q3 q4
  obtain ⟨c0, t1, c1, t2, c2, t3, c3, t4, c4, e0, e1, e2, e3, e4, e5, e6, e7, e8, h0, h1, h2, h3, h4⟩ := round_parts g
  refine five ?_ ?_ ?_ ?_ ?_
  · rw [h0]; omega
  · rw [h1]; omega
  · rw [h2]; omega
  · rw [h3]; omega
  · rw [h4]; omega
/-- carried digits are those of a number, with the same remainder -/
theorem carry_num (f : Nat → Int) (hf : ∀ j, j < 5 → 0 ≤ f j ∧ f j ≤ 2305843009213693952) : ∃ M : Nat, M < TT ∧ nums .i64 (itR f 3) 5 = nums .i64 (digs M) 5 ∧ ((M : Int) - V5 f) % 1361129467683753853853498429727072845819 = 0 := by
  obtain ⟨v0, v1, v2⟩ := digs_V5 (itR f 3) (carry_digits f hf)
  refine ⟨_, v1, nums_congr _ v2, ?_⟩
  obtain ⟨x1, h1⟩ := round_V5 (itR f 0)
  obtain ⟨x2, h2⟩ := round_V5 (itR f 1)
  obtain ⟨x3, h3⟩ := round_V5 (itR f 2)
  have e1 : V5 (itC (itR f 0) 5) = V5 (itR f 1) := rfl
  have e2 : V5 (itC (itR f 1) 5) = V5 (itR f 2) := rfl
  have e3 : V5 (itC (itR f 2) 5) = V5 (itR f 3) := rfl
  have e0 : V5 (itR f 0) = V5 f := rfl
  rw [e1, e0] at h1; rw [e2] at h2; rw [e3] at h3
  rw [Int.toNat_of_nonneg v0]
  omega
/-- a factor of the n-th step -/
def pT (a b : Nat → Int) (n : Nat) : Int := if 5 ≤ n / 5 + n % 5 then 5 * (a (n / 5) * b (n % 5)) else a (n / 5) * b (n % 5)
/-- the digits of a product behind n steps -/
def accT (a b : Nat → Int) : Nat → Nat → Int
  | 0 => fun _ => 0
  | n + 1 => at1 (accT a b n) ((n / 5 + n % 5) % 5) (accT a b n ((n / 5 + n % 5) % 5) + pT a b n)
theorem acc25 (a b : Nat → Int) : accT a b 25 0 = 0 + a 0 * b 0 + 5 * (a 1 * b 4) + 5 * (a 2 * b 3) + 5 * (a 3 * b 2) + 5 * (a 4 * b 1) ∧ accT a b 25 1 = 0 + a 0 * b 1 + a 1 * b 0 + 5 * (a 2 * b 4) + 5 * (a 3 * b 3) + 5 * (a 4 * b 2) ∧ accT a b 25 2 = 0 + a 0 * b 2 + a 1 * b 1 + a 2 * b 0 + 5 * (a 3 * b 4) + 5 * (a 4 * b 3) ∧ accT a b 25 3 = 0 + a 0 * b 3 + a 1 * b 2 + a 2 * b 1 + a 3 * b 0 + 5 * (a 4 * b 4) ∧ accT a b 25 4 = 0 + a 0 * b 4 + a 1 * b 3 + a 2 * b 2 + a 3 * b 1 + a 4 * b 0 := ⟨rfl, rfl, rfl, rfl, rfl⟩
theorem prod_V5 (a b : Nat → Int) : V5 a * V5 b = V5 (accT a b 25) + 1361129467683753853853498429727072845819 * (1 * (a 1 * b 4) + 1 * (a 2 * b 3) + 67108864 * (a 2 * b 4) + 1 * (a 3 * b 2) + 67108864 * (a 3 * b 3) + 4503599627370496 * (a 3 * b 4) + 1 * (a 4 * b 1) + 67108864 * (a 4 * b 2) + 4503599627370496 * (a 4 * b 3) + 302231454903657293676544 * (a 4 * b 4)) := by
  obtain ⟨h0, h1, h2, h3, h4⟩ := acc25 a b
  unfold V5
  rw [h0, h1, h2, h3, h4]
  grind
theorem acc_bd (a b : Nat → Int) (ha : ∀ j, j < 5 → 0 ≤ a j ∧ a j ≤ 134217728) (hb : ∀ j, j < 5 → 0 ≤ b j ∧ b j ≤ 134217728) : ∀ n, n ≤ 25 → ∀ j, 0 ≤ accT a b n j ∧ accT a b n j ≤ (n : Int) * 90071992547409920
  | 0, _, j => by simp [accT]
  | n + 1, hn, j => by
    have ih := acc_bd a b ha hb n (by omega)
    have x := ha (n / 5) (by omega); have y := hb (n % 5) (by omega)
    have p0 := Int.mul_nonneg x.1 y.1
    have p1 : a (n / 5) * b (n % 5) ≤ 134217728 * 134217728 := Int.mul_le_mul x.2 y.2 y.1 (by decide)
    have q : 0 ≤ pT a b n ∧ pT a b n ≤ 90071992547409920 := by
      unfold pT
      split <;> omega
    rw [accT]
    unfold at1
    have i1 := ih ((n / 5 + n % 5) % 5); have i2 := ih j
    split <;> omega
end Go.Proofs.YtjkeaiihjbcfgaaDoor

/- NP -/
namespace Go.Proofs.YtjkeaiihjbcfgaaDoor
set_option linter.unusedVariables false
set_option maxRecDepth 2000
set_option linter.unusedSimpArgs false
open Go.RowKit
theorem tmod5 (s t : Nat) (h : s % 5 = t) : (s : Int).tmod 5 = (t : Int) := by
  rw [Int.tmod_eq_emod_of_nonneg (by omega)]; omega
attribute [local go_sem] nums_length

set_option maxHeartbeats 4000000 in
theorem RTimes_any_ (a b : Nat → Int) (ha : ∀ j, j < 5 → 0 ≤ a j ∧ a j ≤ 134217728) (hb : ∀ j, j < 5 → 0 ≤ b j ∧ b j ≤ 134217728) (w : World) :
    Calls Tryd.prog 43 #[(.agg (nums .i64 a 5).toArray), (.agg (nums .i64 b 5).toArray)] w fun e w' => e = .returned (.agg (nums .i64 (itR (accT a b 25) 3) 5).toArray) ∧ Below w.heap.size w w' := by
  have AB := Lib.hid (fun n hn j => acc_bd a b ha hb n hn j)
  have CC := Lib.hid (fun w => carried_any (accT a b 25) (fun j _ => ⟨(acc_bd a b ha hb 25 (by decide) j).1, by have := (acc_bd a b ha hb 25 (by decide) j).2; omega⟩) w)
  have HA := Lib.hid ha; have HBb := Lib.hid hb
  clear ha hb
  go_enter Tryd.func43, Tryd.ntmps43
  go_upto_region 2 with fail
  obtain ⟨W0, hW⟩ : ∃ W0, W0 = ((((w.alloc (.cells (nums .i64 a 5).toArray 62)).alloc (.cells (nums .i64 b 5).toArray 62)).alloc (.cells #[.int .i64 0, .int .i64 0, .int .i64 0, .int .i64 0, .int .i64 0] 62)).alloc (.cells #[.int .i64 0, .int .i64 0, .int .i64 0, .int .i64 0, .int .i64 0] 62)) := ⟨_, rfl⟩
  have hB0 : Below w.heap.size w W0 := hW ▸ (Below.al (Below.al (Below.al (Below.al (Below.refl _ _)))))
  have HX : Hid (Own w.heap.size (nums .i64 a 5) W0) := Lib.hid (hW ▸ (show Own w.heap.size (nums .i64 a 5) (w.alloc (.cells (nums .i64 a 5).toArray 62)) from Own.newAt (by simp)).alloc.alloc.alloc)
  have HY : Hid (Own (w.heap.size + 1) (nums .i64 b 5) W0) := Lib.hid (hW ▸ (show Own (w.heap.size + 1) (nums .i64 b 5) ((w.alloc (.cells (nums .i64 a 5).toArray 62)).alloc (.cells (nums .i64 b 5).toArray 62)) from Own.newAt (by simp)).alloc.alloc)
  have HR : Hid (Own ((w.heap.size + 1) + 1) (nums .i64 (fun _ => 0) 5) W0) := Lib.hid (hW ▸ (show Own ((w.heap.size + 1) + 1) (nums .i64 (fun _ => 0) 5) (((w.alloc (.cells (nums .i64 a 5).toArray 62)).alloc (.cells (nums .i64 b 5).toArray 62)).alloc (.cells #[.int .i64 0, .int .i64 0, .int .i64 0, .int .i64 0, .int .i64 0] 62)) from Own.newAt (by simp)).alloc)
  have HQ : Hid (Own (((w.heap.size + 1) + 1) + 1) (nums .i64 (fun _ => 0) 5) W0) := Lib.hid (hW ▸ (show Own (((w.heap.size + 1) + 1) + 1) (nums .i64 (fun _ => 0) 5) ((((w.alloc (.cells (nums .i64 a 5).toArray 62)).alloc (.cells (nums .i64 b 5).toArray 62)).alloc (.cells #[.int .i64 0, .int .i64 0, .int .i64 0, .int .i64 0, .int .i64 0] 62)).alloc (.cells #[.int .i64 0, .int .i64 0, .int .i64 0, .int .i64 0, .int .i64 0] 62)) from Own.newAt (by simp)))
  rw [← hW]
  clear hW
  obtain ⟨Q, eQ⟩ : ∃ X, X = (((w.heap.size + 1) + 1) + 1) := ⟨_, rfl⟩
  rw [← eQ] at HQ ⊢
  have Qw : w.heap.size ≤ Q := by omega
  obtain ⟨R, eR⟩ : ∃ X, X = ((w.heap.size + 1) + 1) := ⟨_, rfl⟩
  rw [← eR] at HR ⊢
  have Rw : w.heap.size ≤ R := by omega
  obtain ⟨Y, eY⟩ : ∃ X, X = (w.heap.size + 1) := ⟨_, rfl⟩
  rw [← eY] at HY ⊢
  have Yw : w.heap.size ≤ Y := by omega
  obtain ⟨X, eX⟩ : ∃ X, X = w.heap.size := ⟨_, rfl⟩
  rw [← eX] at HX ⊢
  have Xw : w.heap.size ≤ X := by omega
  have nXY : X ≠ Y := by omega
  have nYX : Y ≠ X := by omega
  have nXR : X ≠ R := by omega
  have nRX : R ≠ X := by omega
  have nXQ : X ≠ Q := by omega
  have nQX : Q ≠ X := by omega
  have nYR : Y ≠ R := by omega
  have nRY : R ≠ Y := by omega
  have nYQ : Y ≠ Q := by omega
  have nQY : Q ≠ Y := by omega
  have nRQ : R ≠ Q := by omega
  have nQR : Q ≠ R := by omega
  clear eX eY eR eQ
  go_wp2_with (fail)
  go_loopw [6] (fun iv wr => ∃ (i : Nat), i ≤ 5 ∧ iv = .int .i64 i ∧ Hid (Below w.heap.size w wr) ∧ Hid (Own X (nums .i64 a 5) wr) ∧ Hid (Own Y (nums .i64 b 5) wr) ∧ Hid (Own Q (nums .i64 (accT a b (5 * i)) 5) wr) ∧ Hid (Own R (nums .i64 (fun _ => 0) 5) wr)) (fun iv _ => (5 - (intOf iv).toNat))
  case atStart => exact ⟨0, by decide, rfl, Lib.hid hB0, HX, HY, HQ, HR⟩
  case round =>
    clear HX HY HQ HR hB0
    obtain ⟨i, hi, rfl, HB, HX, HY, HQ, HR⟩ := hrel
    by_cases hlt : i < 5
    · have i5 : (i : Int) < 5 := by omega
      have i0 : (0 : Int) ≤ (i : Int) := by omega
      have wi : IntKind.i64.wrap ((i : Int) + 1) = (i : Int) + 1 := IntWalk.i64_in _ (by omega)
      have HI := Lib.hid hlt
      clear hi hlt
      go_wp2_with (fail)
      go_loopw [7] (fun kv ws => ∃ (k : Nat), k ≤ 5 ∧ kv = .int .i64 k ∧ Hid (Below w.heap.size w ws) ∧ Hid (Own X (nums .i64 a 5) ws) ∧ Hid (Own Y (nums .i64 b 5) ws) ∧ Hid (Own Q (nums .i64 (accT a b (5 * i + k)) 5) ws) ∧ Hid (Own R (nums .i64 (fun _ => 0) 5) ws)) (fun kv _ => (5 - (intOf kv).toNat))
      case atStart => exact ⟨0, by decide, rfl, HB, HX, HY, HQ, HR⟩
      case round =>
        clear HB HX HY HQ HR
        obtain ⟨k, hk, rfl, HB, HX, HY, HQ, HR⟩ := hrel
        rename World => ws
        by_cases h5 : k < 5
        · have hi5 := HI.out
          have x0 := HX.out.at i _ (nums_at _ _ hi5)
          have y0 := HY.out.at k _ (nums_at _ _ h5)
          have bx := HA.out i hi5; have bY := HBb.out k h5
          obtain ⟨x, ex⟩ : ∃ x, a i = x := ⟨_, rfl⟩
          obtain ⟨y, ey⟩ : ∃ y, b k = y := ⟨_, rfl⟩
          rw [ex] at x0 bx; rw [ey] at y0 bY
          have u0 := Int.mul_nonneg bx.1 bY.1
          have u1 : x * y ≤ 134217728 * 134217728 := Int.mul_le_mul bx.2 bY.2 bY.1 (by decide)
          obtain ⟨u, eu⟩ : ∃ u, x * y = u := ⟨_, rfl⟩
          rw [eu] at u0 u1
          have wu : IntKind.i64.wrap u = u := IntWalk.i64_in _ (by omega)
          obtain ⟨s, es⟩ : ∃ s : Nat, s = i + k := ⟨_, rfl⟩
          obtain ⟨t_, et⟩ : ∃ t : Nat, s % 5 = t := ⟨_, rfl⟩
          have t5 : t_ < 5 := by omega
          have d0 := HQ.out.at t_ _ (nums_at _ _ t5)
          have df := HQ.out.ok t_ (by rw [nums_length]; exact t5)
          have Ql := HQ.out.lt
          have bd := AB.out (5 * i + k) (by omega) t_
          obtain ⟨d_, ed⟩ : ∃ d_, accT a b (5 * i + k) t_ = d_ := ⟨_, rfl⟩
          rw [ed] at d0 bd
          have ws1 : IntKind.i64.wrap ((i : Int) + (k : Int)) = (s : Int) := by rw [IntWalk.i64_in _ (by omega)]; omega
          have ws2 : (i : Int) + (k : Int) = (s : Int) := by omega
          have ws3 : IntKind.i64.wrap (s : Int) = (s : Int) := IntWalk.i64_in _ (by omega)
          have tm := tmod5 s t_ et
          have wt : IntKind.i64.wrap (t_ : Int) = (t_ : Int) := IntWalk.i64_in _ (by omega)
          have k0 : (0 : Int) ≤ (k : Int) := by omega
          have k5 : (k : Int) < 5 := by omega
          have t0 : (0 : Int) ≤ (t_ : Int) := by omega
          have t5i : (t_ : Int) < 5 := by omega
          have wk1 : IntKind.i64.wrap ((k : Int) + 1) = (k : Int) + 1 := IntWalk.i64_in _ (by omega)
          have HK5 := Lib.hid (show k + 1 ≤ 5 from h5)
          have T5 := Lib.hid t5
          clear bx bY hi5 t5
          by_cases sb : 5 ≤ s
          ·
            have sb2 : (5 : Int) ≤ (s : Int) := by omega
            have PT : pT a b (5 * i + k) = 5 * u := by
              unfold pT
              rw [show (5 * i + k) / 5 = i by omega, show (5 * i + k) % 5 = k by omega, ex, ey, eu]
              exact if_pos (by omega)
            have AS : nums .i64 (at1 (accT a b (5 * i + k)) t_ (accT a b (5 * i + k) t_ + pT a b (5 * i + k))) 5 = nums .i64 (accT a b (5 * i + (k + 1))) 5 := by
              rw [show 5 * i + (k + 1) = (5 * i + k) + 1 by omega, accT, show (5 * i + k) / 5 = i by omega, show (5 * i + k) % 5 = k by omega, ← es, et]
            rw [PT, ed] at AS
            obtain ⟨p_, ep⟩ : ∃ p_, 5 * u = p_ := ⟨_, rfl⟩
            have wp : IntKind.i64.wrap p_ = p_ := IntWalk.i64_in _ (by omega)
            rw [ep] at AS
            obtain ⟨z, ez⟩ : ∃ z, d_ + p_ = z := ⟨_, rfl⟩
            have wz : IntKind.i64.wrap z = z := IntWalk.i64_in _ (by omega)
            rw [ez] at AS
            have AS2 := Lib.hid AS
            clear AS PT ex ey ed es et bd u0 u1 h5 hk
            go_wp2_with (fail)
            go_quiet (fail)
            have hD : Below ws.heap.size ws (ws.drewN nq) := below_drewN (Below.refl _ _) _
            have o1 := Lib.hid (AS2.out ▸ own_set (v := z) (HQ.out.later hD) T5.out)
            have o2 := Lib.hid (Own.far (c := Q) (o := t_) (vs := [.int .i64 z]) (HX.out.later hD) nXQ)
            have o3 := Lib.hid (Own.far (c := Q) (o := t_) (vs := [.int .i64 z]) (HY.out.later hD) nYQ)
            have o4 := Lib.hid (Own.far (c := Q) (o := t_) (vs := [.int .i64 z]) (HR.out.later hD) nRQ)
            have o5 := Lib.hid (Below.setCells (Below.go HB.out hD) Qw [.int .i64 z] t_)
            clear AS2 HX HY HR HQ HB
            go_wp2_with (fail)
            skip
            go_roundw
            case rel => (first | exact ⟨k + 1, HK5.out, by go_num, o5, o2, o3, o1, o4⟩ | ((repeat apply Exists.intro); exact ⟨⟨k + 1, HK5.out, by go_num, o5, o2, o3, o1, o4⟩, rfl⟩))
            case measure => (have := HK5.out; simp [intOf]; omega)
          ·
            have sb2 : decide ((5 : Int) ≤ (s : Int)) = false := decide_eq_false (by omega)
            have PT : pT a b (5 * i + k) = u := by
              unfold pT
              rw [show (5 * i + k) / 5 = i by omega, show (5 * i + k) % 5 = k by omega, ex, ey, eu]
              exact if_neg (by omega)
            have AS : nums .i64 (at1 (accT a b (5 * i + k)) t_ (accT a b (5 * i + k) t_ + pT a b (5 * i + k))) 5 = nums .i64 (accT a b (5 * i + (k + 1))) 5 := by
              rw [show 5 * i + (k + 1) = (5 * i + k) + 1 by omega, accT, show (5 * i + k) / 5 = i by omega, show (5 * i + k) % 5 = k by omega, ← es, et]
            rw [PT, ed] at AS
            obtain ⟨p_, ep⟩ : ∃ p_, u = p_ := ⟨_, rfl⟩
            have wp : IntKind.i64.wrap p_ = p_ := IntWalk.i64_in _ (by omega)
            rw [ep] at AS
            obtain ⟨z, ez⟩ : ∃ z, d_ + p_ = z := ⟨_, rfl⟩
            have wz : IntKind.i64.wrap z = z := IntWalk.i64_in _ (by omega)
            rw [ez] at AS
            have AS2 := Lib.hid AS
            clear AS PT ex ey ed es et bd u0 u1 h5 hk sb
            go_wp2_with (fail)
            go_quiet (fail)
            have hD : Below ws.heap.size ws (ws.drewN nq) := below_drewN (Below.refl _ _) _
            have o1 := Lib.hid (AS2.out ▸ own_set (v := z) (HQ.out.later hD) T5.out)
            have o2 := Lib.hid (Own.far (c := Q) (o := t_) (vs := [.int .i64 z]) (HX.out.later hD) nXQ)
            have o3 := Lib.hid (Own.far (c := Q) (o := t_) (vs := [.int .i64 z]) (HY.out.later hD) nYQ)
            have o4 := Lib.hid (Own.far (c := Q) (o := t_) (vs := [.int .i64 z]) (HR.out.later hD) nRQ)
            have o5 := Lib.hid (Below.setCells (Below.go HB.out hD) Qw [.int .i64 z] t_)
            clear AS2 HX HY HR HQ HB
            go_wp2_with (fail)
            skip
            go_roundw
            case rel => (first | exact ⟨k + 1, HK5.out, by go_num, o5, o2, o3, o1, o4⟩ | ((repeat apply Exists.intro); exact ⟨⟨k + 1, HK5.out, by go_num, o5, o2, o3, o1, o4⟩, rfl⟩))
            case measure => (have := HK5.out; simp [intOf]; omega)
        · have e5 : k = 5 := by omega
          subst e5
          have HQ2 : Hid (Own Q (nums .i64 (accT a b (5 * (i + 1))) 5) ws) := HQ
          clear HQ h5 hk
          go_wp2_with (fail)
          go_roundw
          case rel => (first | exact ⟨i + 1, HI.out, by go_num, HB, HX, HY, HQ2, HR⟩ | ((repeat apply Exists.intro); exact ⟨⟨i + 1, HI.out, by go_num, HB, HX, HY, HQ2, HR⟩, rfl⟩))
          case measure => (have := HI.out; simp [intOf]; omega)
    · have e5 : i = 5 := by omega
      subst e5
      go_upto_region 12 with fail
      have hB0 := HB.out
      refine wp_region_lit ?_
      refine wpList_load_mid rfl 62 _ rfl Q 0 rfl (nums .i64 (accT a b (5 * 5)) 5) _ HQ.out.cell Tryd.underlying62 rfl (by kernel_rfl) ?_
      go_wp2_with (fail)
      go_at_call 44
      refine (CC.out _).mono ?_
      rintro e w5 ⟨rfl, hb⟩
      have HRk := Lib.hid (HR.out.later hb)
      clear HR
      have HR := HRk
      clear HRk
      have hB1 := Below.go hB0 hb
      have hst := store_nums (P := Tryd.prog) (n := 5) .i64 (itR (accT a b 25) 3) HR.out rfl
      have HR1 := Lib.hid (Own.store (vs := nums .i64 (itR (accT a b 25) 3) 5) HR.out rfl)
      have hB2 := Below.setCells hB1 Rw (nums .i64 (itR (accT a b 25) 3) 5) 0
      go_wp2_with (fail)
      have hL := run_loadVar_mid (P := Tryd.prog) _ R 0 62 (nums .i64 (itR (accT a b 25) 3) 5) _ HR1.out.cell Tryd.underlying62 rfl (by kernel_rfl)
      exact bodyPost_ret (v := .agg (nums .i64 (itR (accT a b 25) 3) 5).toArray) (res_cell Tryd.results43 rfl hL) rfl ⟨rfl, hB2⟩
end Go.Proofs.YtjkeaiihjbcfgaaDoor

/- NS -/
namespace Go.Proofs.YtjkeaiihjbcfgaaDoor
set_option linter.unusedVariables false
set_option maxRecDepth 2000
set_option linter.unusedSimpArgs false
open Go.RowKit
theorem digs_sum_V5 (a b : Nat) (ha : a < TT) (hb : b < TT) : V5 (fun j => digs a j + digs b j) = a + b := by
  have h1 := V5_digs a ha; have h2 := V5_digs b hb
  unfold V5 at *
  dsimp only
  omega
theorem ref_step (M blk r : Nat) (hM : M < TT) (hb : blk < TT) (hr : r < TT) : ∃ M1 M2 : Nat, M1 < TT ∧ M2 < TT ∧ nums .i64 (itR (fun j => digs blk j + digs M j) 3) 5 = nums .i64 (digs M1) 5 ∧
    nums .i64 (itR (accT (digs M1) (digs r) 25) 3) 5 = nums .i64 (digs M2) 5 ∧ M2 % PP = (M % PP + blk) * r % PP := by
  obtain ⟨M1, h1, e1, c1⟩ := carry_num (fun j => digs blk j + digs M j) (fun j _ => by have := digs_bd blk j; have := digs_bd M j; omega)
  have hd : ∀ N j, j < 5 → 0 ≤ digs N j ∧ digs N j ≤ 134217728 := fun N j _ => by have := digs_bd N j; omega
  obtain ⟨M2, h2, e2, c2⟩ := carry_num (accT (digs M1) (digs r) 25) (fun j _ => ⟨(acc_bd _ _ (hd M1) (hd r) 25 (by decide) j).1, by have := (acc_bd _ _ (hd M1) (hd r) 25 (by decide) j).2; omega⟩)
  refine ⟨M1, M2, h1, h2, e1, e2, ?_⟩
  rw [digs_sum_V5 blk M hb hM] at c1
  have pv := prod_V5 (digs M1) (digs r)
  rw [V5_digs M1 h1, V5_digs r hr] at pv
  generalize V5 (accT (digs M1) (digs r) 25) = v at *
  obtain ⟨q, eq⟩ : ∃ q : Int, (M1 : Int) * r = v + 1361129467683753853853498429727072845819 * q := ⟨_, pv⟩
  clear pv
  have s1 : (M2 : Int) % 1361129467683753853853498429727072845819 = ((M1 * r : Nat) : Int) % 1361129467683753853853498429727072845819 := by
    rw [Int.natCast_mul, eq]; omega
  have s2 : M2 % PP = M1 * r % PP := by
    have : ((M2 % PP : Nat) : Int) = ((M1 * r % PP : Nat) : Int) := by
      rw [Int.natCast_emod, Int.natCast_emod]; exact s1
    exact Int.ofNat_inj.1 this
  have s3 : M1 % PP = (M % PP + blk) % PP := by unfold PP; omega
  rw [s2, Nat.mul_mod, s3, ← Nat.mul_mod]
end Go.Proofs.YtjkeaiihjbcfgaaDoor

/- NQ -/
namespace Go.Proofs.YtjkeaiihjbcfgaaDoor
set_option linter.unusedVariables false
set_option maxRecDepth 2000
set_option linter.unusedSimpArgs false
open Go.RowKit
/-- less the prime, if it is not below it, r times -/
def lstN (M : Nat) : Nat → Nat
  | 0 => M
  | r + 1 => if PP ≤ lstN M r then lstN M r - PP else lstN M r
theorem lstN_lt (M : Nat) (h : M < TT) : ∀ r, lstN M r < TT
  | 0 => h
  | r + 1 => by
    have ih := lstN_lt M h r
    rw [lstN]
    split <;> omega
theorem lstN_two (M : Nat) (h : M < TT) : lstN M 2 = M % PP := by
  show (if PP ≤ (if PP ≤ M then M - PP else M) then (if PP ≤ M then M - PP else M) - PP else (if PP ≤ M then M - PP else M)) = M % PP
  unfold PP TT at *
  by_cases h1 : 1361129467683753853853498429727072845819 ≤ M
  · rw [if_pos h1, if_neg (by omega)]; omega
  · rw [if_neg h1, if_neg h1]; omega
theorem digs_parts (M : Nat) (h : M < TT) : ∃ d0 d1 d2 d3 d4 : Int, nums .i64 (digs M) 5 = [.int .i64 d0, .int .i64 d1, .int .i64 d2, .int .i64 d3, .int .i64 d4] ∧ (0 ≤ d0 ∧ d0 < 67108864) ∧ (0 ≤ d1 ∧ d1 < 67108864) ∧ (0 ≤ d2 ∧ d2 < 67108864) ∧ (0 ≤ d3 ∧ d3 < 67108864) ∧ (0 ≤ d4 ∧ d4 < 67108864) ∧
    (M : Int) = d0 + 67108864 * d1 + 4503599627370496 * d2 + 302231454903657293676544 * d3 + 20282409603651670423947251286016 * d4 :=
  ⟨digs M 0, digs M 1, digs M 2, digs M 3, digs M 4, rfl, digs_bd _ _, digs_bd _ _, digs_bd _ _, digs_bd _ _, digs_bd _ _, (V5_digs M h).symm⟩
theorem digs_of (M : Nat) (d0 d1 d2 d3 d4 : Int) (h0 : 0 ≤ d0 ∧ d0 < 67108864) (h1 : 0 ≤ d1 ∧ d1 < 67108864) (h2 : 0 ≤ d2 ∧ d2 < 67108864) (h3 : 0 ≤ d3 ∧ d3 < 67108864) (h4 : 0 ≤ d4 ∧ d4 < 67108864)
    (h : (M : Int) = d0 + 67108864 * d1 + 4503599627370496 * d2 + 302231454903657293676544 * d3 + 20282409603651670423947251286016 * d4) : [.int .i64 d0, .int .i64 d1, .int .i64 d2, .int .i64 d3, .int .i64 d4] = nums .i64 (digs M) 5 := by
  have e0 : digs M 0 = d0 := by unfold digs; simp only [Nat.reduceMul, Nat.reducePow]; omega
  have e1 : digs M 1 = d1 := by unfold digs; simp only [Nat.reduceMul, Nat.reducePow]; omega
  have e2 : digs M 2 = d2 := by unfold digs; simp only [Nat.reduceMul, Nat.reducePow]; omega
  have e3 : digs M 3 = d3 := by unfold digs; simp only [Nat.reduceMul, Nat.reducePow]; omega
  have e4 : digs M 4 = d4 := by unfold digs; simp only [Nat.reduceMul, Nat.reducePow]; omega
  rw [show nums .i64 (digs M) 5 = [.int .i64 (digs M 0), .int .i64 (digs M 1), .int .i64 (digs M 2), .int .i64 (digs M 3), .int .i64 (digs M 4)] from rfl, e0, e1, e2, e3, e4]

set_option maxHeartbeats 4000000 in
theorem least_any (M : Nat) (hM : M < TT) (w : World) :
    Calls Tryd.prog 45 #[(.agg (nums .i64 (digs M) 5).toArray)] w fun e w' => e = .returned (.agg (nums .i64 (digs (M % PP)) 5).toArray) ∧ Below w.heap.size w w' := by
  have LT := Lib.hid (lstN_lt M hM)
  have L2 := Lib.hid (lstN_two M hM)
  clear hM
  go_enter Tryd.func45, Tryd.ntmps45
  go_upto_region 1 with fail
  obtain ⟨W0, hW⟩ : ∃ W0, W0 = ((w.alloc (.cells (nums .i64 (digs M) 5).toArray 62)).alloc (.cells #[.int .i64 0, .int .i64 0, .int .i64 0, .int .i64 0, .int .i64 0] 62)) := ⟨_, rfl⟩
  have hB0 : Below w.heap.size w W0 := hW ▸ (Below.al (Below.al (Below.refl _ _)))
  have HX : Hid (Own w.heap.size (nums .i64 (digs M) 5) W0) := Lib.hid (hW ▸ (show Own w.heap.size (nums .i64 (digs M) 5) (w.alloc (.cells (nums .i64 (digs M) 5).toArray 62)) from Own.newAt (by simp)).alloc)
  have HR : Hid (Own (w.heap.size + 1) ([.int .i64 0, .int .i64 0, .int .i64 0, .int .i64 0, .int .i64 0]) W0) := Lib.hid (hW ▸ (show Own (w.heap.size + 1) ([.int .i64 0, .int .i64 0, .int .i64 0, .int .i64 0, .int .i64 0]) ((w.alloc (.cells (nums .i64 (digs M) 5).toArray 62)).alloc (.cells #[.int .i64 0, .int .i64 0, .int .i64 0, .int .i64 0, .int .i64 0] 62)) from Own.newAt (by simp)))
  rw [← hW]
  clear hW
  obtain ⟨R, eR⟩ : ∃ X, X = (w.heap.size + 1) := ⟨_, rfl⟩
  rw [← eR] at HR ⊢
  have Rw : w.heap.size ≤ R := by omega
  obtain ⟨X, eX⟩ : ∃ X, X = w.heap.size := ⟨_, rfl⟩
  rw [← eX] at HX ⊢
  have Xw : w.heap.size ≤ X := by omega
  have nXR : X ≠ R := by omega
  have nRX : R ≠ X := by omega
  clear eX eR
  go_wp2_with (fail)
  go_loopw [3] (fun rv wr => ∃ (r_ : Nat), r_ ≤ 2 ∧ rv = .int .i64 r_ ∧ Hid (Below w.heap.size w wr) ∧ Hid (Own X (nums .i64 (digs (lstN M r_)) 5) wr) ∧ Hid (Own R ([.int .i64 0, .int .i64 0, .int .i64 0, .int .i64 0, .int .i64 0]) wr)) (fun rv _ => (2 - (intOf rv).toNat))
  case atStart => exact ⟨0, by decide, rfl, Lib.hid hB0, HX, HR⟩
  case round =>
    clear HX HR hB0
    obtain ⟨r_, hr, rfl, HB, HX, HR⟩ := hrel
    by_cases hlt : r_ < 2
    · have r2 : (r_ : Int) < 2 := by omega
      have wr1 : IntKind.i64.wrap ((r_ : Int) + 1) = (r_ : Int) + 1 := IntWalk.i64_in _ (by omega)
      have HLT := Lib.hid hlt
      have lm := LT.out r_
      have NX := Lib.hid (show lstN M (r_ + 1) = if PP ≤ lstN M r_ then lstN M r_ - PP else lstN M r_ from rfl)
      obtain ⟨m_, em⟩ : ∃ m, lstN M r_ = m := ⟨_, rfl⟩
      rw [em] at HX lm NX
      obtain ⟨d0, d1, d2, d3, d4, eD, b0, b1, b2, b3, b4, eV⟩ := digs_parts m_ lm
      rw [eD] at HX
      obtain ⟨x0, f0⟩ : ∃ z, d0 + 5 = z := ⟨_, rfl⟩
      have wx0 : IntKind.i64.wrap x0 = x0 := IntWalk.i64_in _ (by omega)
      obtain ⟨c0, g0⟩ : ∃ z, x0 / 67108864 = z := ⟨_, rfl⟩
      obtain ⟨k0, i0⟩ : ∃ z, c0 * 67108864 = z := ⟨_, rfl⟩
      have wk0 : IntKind.i64.wrap k0 = k0 := IntWalk.i64_in _ (by omega)
      obtain ⟨h0, j0⟩ : ∃ z, x0 - k0 = z := ⟨_, rfl⟩
      have wh0 : IntKind.i64.wrap h0 = h0 := IntWalk.i64_in _ (by omega)
      obtain ⟨x1, f1⟩ : ∃ z, d1 + c0 = z := ⟨_, rfl⟩
      have wx1 : IntKind.i64.wrap x1 = x1 := IntWalk.i64_in _ (by omega)
      obtain ⟨c1, g1⟩ : ∃ z, x1 / 67108864 = z := ⟨_, rfl⟩
      obtain ⟨k1, i1⟩ : ∃ z, c1 * 67108864 = z := ⟨_, rfl⟩
      have wk1 : IntKind.i64.wrap k1 = k1 := IntWalk.i64_in _ (by omega)
      obtain ⟨h1, j1⟩ : ∃ z, x1 - k1 = z := ⟨_, rfl⟩
      have wh1 : IntKind.i64.wrap h1 = h1 := IntWalk.i64_in _ (by omega)
      obtain ⟨x2, f2⟩ : ∃ z, d2 + c1 = z := ⟨_, rfl⟩
      have wx2 : IntKind.i64.wrap x2 = x2 := IntWalk.i64_in _ (by omega)
      obtain ⟨c2, g2⟩ : ∃ z, x2 / 67108864 = z := ⟨_, rfl⟩
      obtain ⟨k2, i2⟩ : ∃ z, c2 * 67108864 = z := ⟨_, rfl⟩
      have wk2 : IntKind.i64.wrap k2 = k2 := IntWalk.i64_in _ (by omega)
      obtain ⟨h2, j2⟩ : ∃ z, x2 - k2 = z := ⟨_, rfl⟩
      have wh2 : IntKind.i64.wrap h2 = h2 := IntWalk.i64_in _ (by omega)
      obtain ⟨x3, f3⟩ : ∃ z, d3 + c2 = z := ⟨_, rfl⟩
      have wx3 : IntKind.i64.wrap x3 = x3 := IntWalk.i64_in _ (by omega)
      obtain ⟨c3, g3⟩ : ∃ z, x3 / 67108864 = z := ⟨_, rfl⟩
      obtain ⟨k3, i3⟩ : ∃ z, c3 * 67108864 = z := ⟨_, rfl⟩
      have wk3 : IntKind.i64.wrap k3 = k3 := IntWalk.i64_in _ (by omega)
      obtain ⟨h3, j3⟩ : ∃ z, x3 - k3 = z := ⟨_, rfl⟩
      have wh3 : IntKind.i64.wrap h3 = h3 := IntWalk.i64_in _ (by omega)
      obtain ⟨x4, f4⟩ : ∃ z, d4 + c3 = z := ⟨_, rfl⟩
      have wx4 : IntKind.i64.wrap x4 = x4 := IntWalk.i64_in _ (by omega)
      obtain ⟨y4, f5⟩ : ∃ z, x4 - 67108864 = z := ⟨_, rfl⟩
      have wy4 : IntKind.i64.wrap y4 = y4 := IntWalk.i64_in _ (by omega)
      have EY : 67108864 ≤ x4 → Hid ([.int .i64 h0, .int .i64 h1, .int .i64 h2, .int .i64 h3, .int .i64 y4] = nums .i64 (digs (lstN M (r_ + 1))) 5) := fun h => Lib.hid (by
        rw [NX.out, if_pos (by unfold PP TT at *; omega)]
        exact digs_of _ _ _ _ _ _ (by omega) (by omega) (by omega) (by omega) (by unfold TT at lm; omega) (by unfold PP at *; omega))
      have EN : ¬ 67108864 ≤ x4 → Hid ([.int .i64 d0, .int .i64 d1, .int .i64 d2, .int .i64 d3, .int .i64 d4] = nums .i64 (digs (lstN M (r_ + 1))) 5) := fun h => Lib.hid (by
        rw [NX.out, if_neg (by unfold PP TT at *; omega)]
        exact digs_of _ _ _ _ _ _ b0 b1 b2 b3 b4 eV)
      have SP : 67108864 ≤ x4 ∨ ¬ 67108864 ≤ x4 := by omega
      clear eD b0 b1 b2 b3 b4 eV lm em NX hr hlt
      have hB0 := HB.out
      clear HB
      have oX := HX.out
      have X0 := oX.at 0 _ rfl
      have X1 := oX.at 1 _ rfl
      have X2 := oX.at 2 _ rfl
      have X3 := oX.at 3 _ rfl
      have X4 := oX.at 4 _ rfl
      have Xl := oX.lt
      clear oX
      go_upto_region 5 with fail
      clear X0 X1 X2 X3 X4 Xl
      obtain ⟨e0, hW⟩ : ∃ e0, e0 = (wr.alloc (.cells #[.int .i64 d0, .int .i64 d1, .int .i64 d2, .int .i64 d3, .int .i64 d4] 62)) := ⟨_, rfl⟩
      have hBx : Below wr.heap.size wr e0 := hW ▸ (Below.al (Below.refl _ _))
      have HE : Hid (Own wr.heap.size ([.int .i64 d0, .int .i64 d1, .int .i64 d2, .int .i64 d3, .int .i64 d4]) e0) := Lib.hid (hW ▸ (show Own wr.heap.size ([.int .i64 d0, .int .i64 d1, .int .i64 d2, .int .i64 d3, .int .i64 d4]) (wr.alloc (.cells #[.int .i64 d0, .int .i64 d1, .int .i64 d2, .int .i64 d3, .int .i64 d4] 62)) from Own.newAt (by simp)))
      rw [← hW]
      clear hW
      obtain ⟨E_, eE_⟩ : ∃ X, X = wr.heap.size := ⟨_, rfl⟩
      rw [← eE_] at HE ⊢
      have E_w : wr.heap.size ≤ E_ := by omega
      clear eE_
      have nE_X : E_ ≠ X := by have := HX.out.lt; omega
      have nXE_ : X ≠ E_ := Ne.symm nE_X
      have nE_R : E_ ≠ R := by have := HR.out.lt; omega
      have nRE_ : R ≠ E_ := Ne.symm nE_R
      have E_w2 : w.heap.size ≤ E_ := by have := hB0.size; omega
      clear E_w
      have E_w := E_w2
      clear E_w2
      have HXk := Lib.hid (HX.out.later hBx)
      have HRk := Lib.hid (HR.out.later hBx)
      clear HX HR
      have HX := HXk
      clear HXk
      have HR := HRk
      clear HRk
      have hB0n := Below.go hB0 hBx
      clear hB0 hBx
      have hB0 := hB0n
      clear hB0n
      have oE := HE.out
      have E0 := oE.at 0 _ rfl
      have Ef0 := oE.ok 0 (by simp)
      have El := oE.lt
      clear oE
      go_upto_region 6 with fail
      clear E0 Ef0 El
      rw [show (e0.setCell ⟨E_, 0, none⟩ (.int .i64 x0)) = e0.setCells E_ 0 [.int .i64 x0] from rfl]
      have HEn : Hid (Own E_ ([.int .i64 x0, .int .i64 d1, .int .i64 d2, .int .i64 d3, .int .i64 d4]) (e0.setCells E_ 0 [.int .i64 x0])) := Lib.hid (show Own E_ (over _ 0 [.int .i64 x0]) _ from Own.part HE.out (by simp))
      have HXn : Hid (Own X ([.int .i64 d0, .int .i64 d1, .int .i64 d2, .int .i64 d3, .int .i64 d4]) (e0.setCells E_ 0 [.int .i64 x0])) := Lib.hid (Own.far (o := 0) (vs := [.int .i64 x0]) HX.out nXE_)
      have HRn : Hid (Own R ([.int .i64 0, .int .i64 0, .int .i64 0, .int .i64 0, .int .i64 0]) (e0.setCells E_ 0 [.int .i64 x0])) := Lib.hid (Own.far (o := 0) (vs := [.int .i64 x0]) HR.out nRE_)
      have hB0n : Below w.heap.size w (e0.setCells E_ 0 [.int .i64 x0]) := Below.setCells hB0 E_w [.int .i64 x0] 0
      clear HE HX HR hB0
      generalize (e0.setCells E_ 0 [.int .i64 x0]) = e1 at *
      have HE := HEn
      clear HEn
      have HX := HXn
      clear HXn
      have HR := HRn
      clear HRn
      have hB0 := hB0n
      clear hB0n
      go_wp2_with (fail)
      refine wp_loop_rounds 5 ?_
      rw [rounds_succ]
      have oE := HE.out
      have E0 := oE.at 0 _ rfl
      have Ef0 := oE.ok 0 (by simp)
      have El := oE.lt
      clear oE
      go_upto_region 11 with fail
      clear E0 Ef0 El
      rw [show (e1.setCell ⟨E_, 0, none⟩ (.int .i64 h0)) = e1.setCells E_ 0 [.int .i64 h0] from rfl]
      have HEn : Hid (Own E_ ([.int .i64 h0, .int .i64 d1, .int .i64 d2, .int .i64 d3, .int .i64 d4]) (e1.setCells E_ 0 [.int .i64 h0])) := Lib.hid (show Own E_ (over _ 0 [.int .i64 h0]) _ from Own.part HE.out (by simp))
      have HXn : Hid (Own X ([.int .i64 d0, .int .i64 d1, .int .i64 d2, .int .i64 d3, .int .i64 d4]) (e1.setCells E_ 0 [.int .i64 h0])) := Lib.hid (Own.far (o := 0) (vs := [.int .i64 h0]) HX.out nXE_)
      have HRn : Hid (Own R ([.int .i64 0, .int .i64 0, .int .i64 0, .int .i64 0, .int .i64 0]) (e1.setCells E_ 0 [.int .i64 h0])) := Lib.hid (Own.far (o := 0) (vs := [.int .i64 h0]) HR.out nRE_)
      have hB0n : Below w.heap.size w (e1.setCells E_ 0 [.int .i64 h0]) := Below.setCells hB0 E_w [.int .i64 h0] 0
      clear HE HX HR hB0
      generalize (e1.setCells E_ 0 [.int .i64 h0]) = e2 at *
      have HE := HEn
      clear HEn
      have HX := HXn
      clear HXn
      have HR := HRn
      clear HRn
      have hB0 := hB0n
      clear hB0n
      have oE := HE.out
      have E1 := oE.at 1 _ rfl
      have Ef1 := oE.ok 1 (by simp)
      have El := oE.lt
      clear oE
      go_wp2_with (fail)
      clear E1 Ef1 El
      rw [show (e2.setCell ⟨E_, 1, none⟩ (.int .i64 x1)) = e2.setCells E_ 1 [.int .i64 x1] from rfl]
      have HEn : Hid (Own E_ ([.int .i64 h0, .int .i64 x1, .int .i64 d2, .int .i64 d3, .int .i64 d4]) (e2.setCells E_ 1 [.int .i64 x1])) := Lib.hid (show Own E_ (over _ 1 [.int .i64 x1]) _ from Own.part HE.out (by simp))
      have HXn : Hid (Own X ([.int .i64 d0, .int .i64 d1, .int .i64 d2, .int .i64 d3, .int .i64 d4]) (e2.setCells E_ 1 [.int .i64 x1])) := Lib.hid (Own.far (o := 1) (vs := [.int .i64 x1]) HX.out nXE_)
      have HRn : Hid (Own R ([.int .i64 0, .int .i64 0, .int .i64 0, .int .i64 0, .int .i64 0]) (e2.setCells E_ 1 [.int .i64 x1])) := Lib.hid (Own.far (o := 1) (vs := [.int .i64 x1]) HR.out nRE_)
      have hB0n : Below w.heap.size w (e2.setCells E_ 1 [.int .i64 x1]) := Below.setCells hB0 E_w [.int .i64 x1] 1
      clear HE HX HR hB0
      generalize (e2.setCells E_ 1 [.int .i64 x1]) = e3 at *
      have HE := HEn
      clear HEn
      have HX := HXn
      clear HXn
      have HR := HRn
      clear HRn
      have hB0 := hB0n
      clear hB0n
      rw [rounds_succ]
      have oE := HE.out
      have E1 := oE.at 1 _ rfl
      have Ef1 := oE.ok 1 (by simp)
      have El := oE.lt
      clear oE
      go_upto_region 11 with fail
      clear E1 Ef1 El
      rw [show (e3.setCell ⟨E_, 1, none⟩ (.int .i64 h1)) = e3.setCells E_ 1 [.int .i64 h1] from rfl]
      have HEn : Hid (Own E_ ([.int .i64 h0, .int .i64 h1, .int .i64 d2, .int .i64 d3, .int .i64 d4]) (e3.setCells E_ 1 [.int .i64 h1])) := Lib.hid (show Own E_ (over _ 1 [.int .i64 h1]) _ from Own.part HE.out (by simp))
      have HXn : Hid (Own X ([.int .i64 d0, .int .i64 d1, .int .i64 d2, .int .i64 d3, .int .i64 d4]) (e3.setCells E_ 1 [.int .i64 h1])) := Lib.hid (Own.far (o := 1) (vs := [.int .i64 h1]) HX.out nXE_)
      have HRn : Hid (Own R ([.int .i64 0, .int .i64 0, .int .i64 0, .int .i64 0, .int .i64 0]) (e3.setCells E_ 1 [.int .i64 h1])) := Lib.hid (Own.far (o := 1) (vs := [.int .i64 h1]) HR.out nRE_)
      have hB0n : Below w.heap.size w (e3.setCells E_ 1 [.int .i64 h1]) := Below.setCells hB0 E_w [.int .i64 h1] 1
      clear HE HX HR hB0
      generalize (e3.setCells E_ 1 [.int .i64 h1]) = e4 at *
      have HE := HEn
      clear HEn
      have HX := HXn
      clear HXn
      have HR := HRn
      clear HRn
      have hB0 := hB0n
      clear hB0n
      have oE := HE.out
      have E2 := oE.at 2 _ rfl
      have Ef2 := oE.ok 2 (by simp)
      have El := oE.lt
      clear oE
      go_wp2_with (fail)
      clear E2 Ef2 El
      rw [show (e4.setCell ⟨E_, 2, none⟩ (.int .i64 x2)) = e4.setCells E_ 2 [.int .i64 x2] from rfl]
      have HEn : Hid (Own E_ ([.int .i64 h0, .int .i64 h1, .int .i64 x2, .int .i64 d3, .int .i64 d4]) (e4.setCells E_ 2 [.int .i64 x2])) := Lib.hid (show Own E_ (over _ 2 [.int .i64 x2]) _ from Own.part HE.out (by simp))
      have HXn : Hid (Own X ([.int .i64 d0, .int .i64 d1, .int .i64 d2, .int .i64 d3, .int .i64 d4]) (e4.setCells E_ 2 [.int .i64 x2])) := Lib.hid (Own.far (o := 2) (vs := [.int .i64 x2]) HX.out nXE_)
      have HRn : Hid (Own R ([.int .i64 0, .int .i64 0, .int .i64 0, .int .i64 0, .int .i64 0]) (e4.setCells E_ 2 [.int .i64 x2])) := Lib.hid (Own.far (o := 2) (vs := [.int .i64 x2]) HR.out nRE_)
      have hB0n : Below w.heap.size w (e4.setCells E_ 2 [.int .i64 x2]) := Below.setCells hB0 E_w [.int .i64 x2] 2
      clear HE HX HR hB0
      generalize (e4.setCells E_ 2 [.int .i64 x2]) = e5 at *
      have HE := HEn
      clear HEn
      have HX := HXn
      clear HXn
      have HR := HRn
      clear HRn
      have hB0 := hB0n
      clear hB0n
      rw [rounds_succ]
      have oE := HE.out
      have E2 := oE.at 2 _ rfl
      have Ef2 := oE.ok 2 (by simp)
      have El := oE.lt
      clear oE
      go_upto_region 11 with fail
      clear E2 Ef2 El
      rw [show (e5.setCell ⟨E_, 2, none⟩ (.int .i64 h2)) = e5.setCells E_ 2 [.int .i64 h2] from rfl]
      have HEn : Hid (Own E_ ([.int .i64 h0, .int .i64 h1, .int .i64 h2, .int .i64 d3, .int .i64 d4]) (e5.setCells E_ 2 [.int .i64 h2])) := Lib.hid (show Own E_ (over _ 2 [.int .i64 h2]) _ from Own.part HE.out (by simp))
      have HXn : Hid (Own X ([.int .i64 d0, .int .i64 d1, .int .i64 d2, .int .i64 d3, .int .i64 d4]) (e5.setCells E_ 2 [.int .i64 h2])) := Lib.hid (Own.far (o := 2) (vs := [.int .i64 h2]) HX.out nXE_)
      have HRn : Hid (Own R ([.int .i64 0, .int .i64 0, .int .i64 0, .int .i64 0, .int .i64 0]) (e5.setCells E_ 2 [.int .i64 h2])) := Lib.hid (Own.far (o := 2) (vs := [.int .i64 h2]) HR.out nRE_)
      have hB0n : Below w.heap.size w (e5.setCells E_ 2 [.int .i64 h2]) := Below.setCells hB0 E_w [.int .i64 h2] 2
      clear HE HX HR hB0
      generalize (e5.setCells E_ 2 [.int .i64 h2]) = e6 at *
      have HE := HEn
      clear HEn
      have HX := HXn
      clear HXn
      have HR := HRn
      clear HRn
      have hB0 := hB0n
      clear hB0n
      have oE := HE.out
      have E3 := oE.at 3 _ rfl
      have Ef3 := oE.ok 3 (by simp)
      have El := oE.lt
      clear oE
      go_wp2_with (fail)
      clear E3 Ef3 El
      rw [show (e6.setCell ⟨E_, 3, none⟩ (.int .i64 x3)) = e6.setCells E_ 3 [.int .i64 x3] from rfl]
      have HEn : Hid (Own E_ ([.int .i64 h0, .int .i64 h1, .int .i64 h2, .int .i64 x3, .int .i64 d4]) (e6.setCells E_ 3 [.int .i64 x3])) := Lib.hid (show Own E_ (over _ 3 [.int .i64 x3]) _ from Own.part HE.out (by simp))
      have HXn : Hid (Own X ([.int .i64 d0, .int .i64 d1, .int .i64 d2, .int .i64 d3, .int .i64 d4]) (e6.setCells E_ 3 [.int .i64 x3])) := Lib.hid (Own.far (o := 3) (vs := [.int .i64 x3]) HX.out nXE_)
      have HRn : Hid (Own R ([.int .i64 0, .int .i64 0, .int .i64 0, .int .i64 0, .int .i64 0]) (e6.setCells E_ 3 [.int .i64 x3])) := Lib.hid (Own.far (o := 3) (vs := [.int .i64 x3]) HR.out nRE_)
      have hB0n : Below w.heap.size w (e6.setCells E_ 3 [.int .i64 x3]) := Below.setCells hB0 E_w [.int .i64 x3] 3
      clear HE HX HR hB0
      generalize (e6.setCells E_ 3 [.int .i64 x3]) = e7 at *
      have HE := HEn
      clear HEn
      have HX := HXn
      clear HXn
      have HR := HRn
      clear HRn
      have hB0 := hB0n
      clear hB0n
      rw [rounds_succ]
      have oE := HE.out
      have E3 := oE.at 3 _ rfl
      have Ef3 := oE.ok 3 (by simp)
      have El := oE.lt
      clear oE
      go_upto_region 11 with fail
      clear E3 Ef3 El
      rw [show (e7.setCell ⟨E_, 3, none⟩ (.int .i64 h3)) = e7.setCells E_ 3 [.int .i64 h3] from rfl]
      have HEn : Hid (Own E_ ([.int .i64 h0, .int .i64 h1, .int .i64 h2, .int .i64 h3, .int .i64 d4]) (e7.setCells E_ 3 [.int .i64 h3])) := Lib.hid (show Own E_ (over _ 3 [.int .i64 h3]) _ from Own.part HE.out (by simp))
      have HXn : Hid (Own X ([.int .i64 d0, .int .i64 d1, .int .i64 d2, .int .i64 d3, .int .i64 d4]) (e7.setCells E_ 3 [.int .i64 h3])) := Lib.hid (Own.far (o := 3) (vs := [.int .i64 h3]) HX.out nXE_)
      have HRn : Hid (Own R ([.int .i64 0, .int .i64 0, .int .i64 0, .int .i64 0, .int .i64 0]) (e7.setCells E_ 3 [.int .i64 h3])) := Lib.hid (Own.far (o := 3) (vs := [.int .i64 h3]) HR.out nRE_)
      have hB0n : Below w.heap.size w (e7.setCells E_ 3 [.int .i64 h3]) := Below.setCells hB0 E_w [.int .i64 h3] 3
      clear HE HX HR hB0
      generalize (e7.setCells E_ 3 [.int .i64 h3]) = e8 at *
      have HE := HEn
      clear HEn
      have HX := HXn
      clear HXn
      have HR := HRn
      clear HRn
      have hB0 := hB0n
      clear hB0n
      have oE := HE.out
      have E4 := oE.at 4 _ rfl
      have Ef4 := oE.ok 4 (by simp)
      have El := oE.lt
      clear oE
      go_wp2_with (fail)
      clear E4 Ef4 El
      rw [show (e8.setCell ⟨E_, 4, none⟩ (.int .i64 x4)) = e8.setCells E_ 4 [.int .i64 x4] from rfl]
      have HEn : Hid (Own E_ ([.int .i64 h0, .int .i64 h1, .int .i64 h2, .int .i64 h3, .int .i64 x4]) (e8.setCells E_ 4 [.int .i64 x4])) := Lib.hid (show Own E_ (over _ 4 [.int .i64 x4]) _ from Own.part HE.out (by simp))
      have HXn : Hid (Own X ([.int .i64 d0, .int .i64 d1, .int .i64 d2, .int .i64 d3, .int .i64 d4]) (e8.setCells E_ 4 [.int .i64 x4])) := Lib.hid (Own.far (o := 4) (vs := [.int .i64 x4]) HX.out nXE_)
      have HRn : Hid (Own R ([.int .i64 0, .int .i64 0, .int .i64 0, .int .i64 0, .int .i64 0]) (e8.setCells E_ 4 [.int .i64 x4])) := Lib.hid (Own.far (o := 4) (vs := [.int .i64 x4]) HR.out nRE_)
      have hB0n : Below w.heap.size w (e8.setCells E_ 4 [.int .i64 x4]) := Below.setCells hB0 E_w [.int .i64 x4] 4
      clear HE HX HR hB0
      generalize (e8.setCells E_ 4 [.int .i64 x4]) = e9 at *
      have HE := HEn
      clear HEn
      have HX := HXn
      clear HXn
      have HR := HRn
      clear HRn
      have hB0 := hB0n
      clear hB0n
      rw [rounds_succ]
      have oE := HE.out
      have E4 := oE.at 4 _ rfl
      have Ef4 := oE.ok 4 (by simp)
      have El := oE.lt
      clear oE
      rcases SP with ge | lt
      · have EYn := EY (by omega)
        clear EY EN
        go_upto_region 14 with fail
        clear E4 Ef4 El
        rw [show (e9.setCell ⟨E_, 4, none⟩ (.int .i64 y4)) = e9.setCells E_ 4 [.int .i64 y4] from rfl]
        have HEn : Hid (Own E_ ([.int .i64 h0, .int .i64 h1, .int .i64 h2, .int .i64 h3, .int .i64 y4]) (e9.setCells E_ 4 [.int .i64 y4])) := Lib.hid (show Own E_ (over _ 4 [.int .i64 y4]) _ from Own.part HE.out (by simp))
        have HXn : Hid (Own X ([.int .i64 d0, .int .i64 d1, .int .i64 d2, .int .i64 d3, .int .i64 d4]) (e9.setCells E_ 4 [.int .i64 y4])) := Lib.hid (Own.far (o := 4) (vs := [.int .i64 y4]) HX.out nXE_)
        have HRn : Hid (Own R ([.int .i64 0, .int .i64 0, .int .i64 0, .int .i64 0, .int .i64 0]) (e9.setCells E_ 4 [.int .i64 y4])) := Lib.hid (Own.far (o := 4) (vs := [.int .i64 y4]) HR.out nRE_)
        have hB0n : Below w.heap.size w (e9.setCells E_ 4 [.int .i64 y4]) := Below.setCells hB0 E_w [.int .i64 y4] 4
        clear HE HX HR hB0
        generalize (e9.setCells E_ 4 [.int .i64 y4]) = e10 at *
        have HE := HEn
        clear HEn
        have HX := HXn
        clear HXn
        have HR := HRn
        clear HRn
        have hB0 := hB0n
        clear hB0n
        have oE_ := HE.out
        have E_0 := oE_.at 0 _ rfl
        have E_1 := oE_.at 1 _ rfl
        have E_2 := oE_.at 2 _ rfl
        have E_3 := oE_.at 3 _ rfl
        have E_4 := oE_.at 4 _ rfl
        have E_l := oE_.lt
        clear oE_
        have oX := HX.out
        have X0 := oX.at 0 _ rfl
        have Xf0 := oX.ok 0 (by simp)
        have X1 := oX.at 1 _ rfl
        have Xf1 := oX.ok 1 (by simp)
        have X2 := oX.at 2 _ rfl
        have Xf2 := oX.ok 2 (by simp)
        have X3 := oX.at 3 _ rfl
        have Xf3 := oX.ok 3 (by simp)
        have X4 := oX.at 4 _ rfl
        have Xf4 := oX.ok 4 (by simp)
        have Xl := oX.lt
        clear oX
        have O1 := Lib.hid (Own.store (vs := [.int .i64 h0, .int .i64 h1, .int .i64 h2, .int .i64 h3, .int .i64 y4]) HX.out rfl)
        rw [EYn.out] at O1
        have O2 := Lib.hid (Own.far (o := 0) (vs := [.int .i64 h0, .int .i64 h1, .int .i64 h2, .int .i64 h3, .int .i64 y4]) HR.out nRX)
        have O3 := Lib.hid (Below.setCells hB0 Xw [.int .i64 h0, .int .i64 h1, .int .i64 h2, .int .i64 h3, .int .i64 y4] 0)
        rw [EYn.out] at O2 O3
        have O4 := EYn
        clear HX HE HR hB0
        go_wp2_with (fail)
        rw [show (((((e10.setCell ⟨X, 0, none⟩ (.int .i64 h0)).setCell ⟨X, 1, none⟩ (.int .i64 h1)).setCell ⟨X, 2, none⟩ (.int .i64 h2)).setCell ⟨X, 3, none⟩ (.int .i64 h3)).setCell ⟨X, 4, none⟩ (.int .i64 y4)) = e10.setCells X 0 [.int .i64 h0, .int .i64 h1, .int .i64 h2, .int .i64 h3, .int .i64 y4] from rfl]
        rw [EYn.out]
        go_roundw
        case rel => (first | exact ⟨r_ + 1, HLT.out, by go_num, O3, O1, O2⟩ | ((repeat apply Exists.intro); exact ⟨⟨r_ + 1, HLT.out, by go_num, O3, O1, O2⟩, rfl⟩))
        case measure => (have := HLT.out; simp [intOf]; omega)
      · have ENn := EN (by omega)
        have lt2 : decide ((67108864 : Int) ≤ x4) = false := decide_eq_false (by omega)
        have O1 := Lib.hid (ENn.out ▸ HX.out)
        have O3 := Lib.hid hB0
        clear EY EN lt ENn HX hB0
        go_wp2_with (fail)
        go_roundw
        case rel => (first | exact ⟨r_ + 1, HLT.out, by go_num, O3, O1, HR⟩ | ((repeat apply Exists.intro); exact ⟨⟨r_ + 1, HLT.out, by go_num, O3, O1, HR⟩, rfl⟩))
        case measure => (have := HLT.out; simp [intOf]; omega)
    · have e2 : r_ = 2 := by omega
      subst e2
      rw [L2.out] at HX
      have HR2 : Hid (Own R (nums .i64 (fun _ => 0) 5) wr) := HR
      clear HR
      have HR := HR2
      clear HR2
      go_upto_region 15 with fail
      have hB0 := HB.out
      refine wp_region_lit ?_
      refine wpList_load_mid rfl 62 _ rfl X 0 rfl (nums .i64 (digs (M % PP)) 5) _ HX.out.cell Tryd.underlying62 rfl (by kernel_rfl) ?_
      refine wpList_store_mid rfl 62 _ _ rfl R 0 (nums .i64 (digs (M % PP)) 5).toArray rfl rfl HR.out.free (by kernel_rfl) (nums_all _ _ _) ?_
      change wpList _ _ _ [] _ (wr.setCells R 0 (nums .i64 (digs (M % PP)) 5))
      have HRn : Hid (Own R (nums .i64 (digs (M % PP)) 5) (wr.setCells R 0 (nums .i64 (digs (M % PP)) 5))) := Lib.hid (Own.store HR.out (by simp [nums_length]))
      have HXn : Hid (Own X (nums .i64 (digs (M % PP)) 5) (wr.setCells R 0 (nums .i64 (digs (M % PP)) 5))) := Lib.hid (Own.far (o := 0) (vs := (nums .i64 (digs (M % PP)) 5)) HX.out nXR)
      have hB0n : Below w.heap.size w (wr.setCells R 0 (nums .i64 (digs (M % PP)) 5)) := Below.setCells hB0 Rw (nums .i64 (digs (M % PP)) 5) 0
      clear HR HX hB0
      generalize (wr.setCells R 0 (nums .i64 (digs (M % PP)) 5)) = wz at *
      have HR := HRn
      clear HRn
      have HX := HXn
      clear HXn
      have hB0 := hB0n
      clear hB0n
      go_wp2_with (fail)
      have hL := run_loadVar_mid (P := Tryd.prog) _ R 0 62 (nums .i64 (digs (M % PP)) 5) _ HR.out.cell Tryd.underlying62 rfl (by kernel_rfl)
      exact bodyPost_ret (v := .agg (nums .i64 (digs (M % PP)) 5).toArray) (res_cell Tryd.results45 rfl hL) rfl ⟨rfl, hB0⟩
end Go.Proofs.YtjkeaiihjbcfgaaDoor
