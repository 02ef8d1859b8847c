/- umbralaw07.less; the document's Cut. -/
import Derived.Test.YtbofihejegbfhaaNH
import Derived.Lib.Hide
import Derived.Deep.QuietTactic
namespace Go.Proofs.Ytbofihejegbfhaa
set_option linter.unusedVariables false
set_option maxRecDepth 2000
set_option linter.unusedSimpArgs false
open Go.RowKit
/-- is something borrowed at the i-th byte? -/
def bor (f g : Nat → Int) (i : Nat) : Int := if numB f i < numB g i then 1 else 0
/-- a byte of the difference -/
def subF (f g : Nat → Int) (i : Nat) : Int := (f i - g i - bor f g i) % 256
theorem in_subF (f g : Nat → Int) (i : Nat) : inB (subF f g i) := by unfold inB subF; omega
theorem bor_bd (f g : Nat → Int) (i : Nat) : 0 ≤ bor f g i ∧ bor f g i ≤ 1 := by unfold bor; split <;> omega
theorem pow256_pos (i : Nat) : 0 < 256 ^ i := Nat.pow_pos (by decide)
theorem bor_next (f g : Nat → Int) (i : Nat) (hf : ∀ j, j < i + 1 → inB (f j)) (hg : ∀ j, j < i + 1 → inB (g j)) : bor f g (i + 1) = if f i - g i - bor f g i < 0 then 1 else 0 := by
  have a0 := numB_lt f i fun j hj => hf j (by omega)
  have b0 := numB_lt g i fun j hj => hg j (by omega)
  have fi := hf i (by omega); have gi := hg i (by omega)
  obtain ⟨x, ex⟩ := Int.eq_ofNat_of_zero_le fi.1
  obtain ⟨y, ey⟩ := Int.eq_ofNat_of_zero_le gi.1
  unfold bor
  rw [numB, numB, ex, ey, Int.toNat_natCast, Int.toNat_natCast]
  have p0 := pow256_pos i
  generalize numB f i = A at *
  generalize numB g i = B at *
  generalize 256 ^ i = M at *
  -- A + x M < B + y M: by the upper, then by the lower
  have key : A + x * M < B + y * M ↔ x < y ∨ (x = y ∧ A < B) := by
    constructor
    · intro h
      rcases Nat.lt_trichotomy x y with h1 | h1 | h1
      · exact .inl h1
      · subst h1; exact .inr ⟨rfl, by omega⟩
      · exfalso
        have := Nat.mul_le_mul_right M (show y + 1 ≤ x from h1)
        rw [Nat.add_mul, Nat.one_mul] at this
        omega
    · rintro (h1 | ⟨rfl, h2⟩)
      · have := Nat.mul_le_mul_right M (show x + 1 ≤ y from h1)
        rw [Nat.add_mul, Nat.one_mul] at this
        omega
      · omega
  by_cases h : A < B
  · rw [if_pos h]
    by_cases h2 : A + x * M < B + y * M
    · rw [if_pos h2, if_pos (by rw [key] at h2; omega)]
    · rw [if_neg h2, if_neg (by rw [key] at h2; omega)]
  · rw [if_neg h]
    by_cases h2 : A + x * M < B + y * M
    · rw [if_pos h2, if_pos (by rw [key] at h2; omega)]
    · rw [if_neg h2, if_neg (by rw [key] at h2; omega)]
/-- the difference, as a number: what is borrowed comes from above -/
theorem sub_num (f g : Nat → Int) : ∀ n, (∀ j, j < n → inB (f j)) → (∀ j, j < n → inB (g j)) → (numB (subF f g) n : Int) + numB g n = numB f n + bor f g n * ((256 ^ n : Nat) : Int)
  | 0, _, _ => by simp [numB, bor]
  | n + 1, hf, hg => by
    have ih := sub_num f g n (fun j hj => hf j (by omega)) (fun j hj => hg j (by omega))
    have bn := bor_next f g n hf hg
    have fi := hf n (by omega); have gi := hg n (by omega)
    have si := in_subF f g n
    have bb := bor_bd f g n
    rw [numB, numB, numB, bn]
    have e1 : ((numB (subF f g) n + (subF f g n).toNat * 256 ^ n : Nat) : Int) = (numB (subF f g) n : Int) + subF f g n * ((256 ^ n : Nat) : Int) := by
      rw [Int.natCast_add, Int.natCast_mul, Int.toNat_of_nonneg si.1]
    have e2 : ((numB g n + (g n).toNat * 256 ^ n : Nat) : Int) = (numB g n : Int) + g n * ((256 ^ n : Nat) : Int) := by
      rw [Int.natCast_add, Int.natCast_mul, Int.toNat_of_nonneg gi.1]
    have e3 : ((numB f n + (f n).toNat * 256 ^ n : Nat) : Int) = (numB f n : Int) + f n * ((256 ^ n : Nat) : Int) := by
      rw [Int.natCast_add, Int.natCast_mul, Int.toNat_of_nonneg fi.1]
    have e4 : ((256 ^ (n + 1) : Nat) : Int) = 256 * ((256 ^ n : Nat) : Int) := by rw [Nat.pow_succ, Int.natCast_mul]; omega
    rw [e1, e2, e3, e4]
    have e5 : subF f g n + g n = f n - bor f g n + (if f n - g n - bor f g n < 0 then 1 else 0) * 256 := by
      unfold subF inB at *
      split <;> omega
    generalize ((256 ^ n : Nat) : Int) = M at *
    generalize (if f n - g n - bor f g n < 0 then (1 : Int) else 0) = c at *
    have e6 : subF f g n * M + g n * M = f n * M - bor f g n * M + c * (256 * M) := by
      rw [← Int.add_mul, e5]; grind
    omega
/-- a difference of numbers of 128 bits, going round -/
def lessN (A B : Nat) : Nat := (A + 340282366920938463463374607431768211456 - B) % 340282366920938463463374607431768211456
theorem numB16 {f : Nat → Int} (h : ∀ i, i < 16 → inB (f i)) : numB f 16 < 340282366920938463463374607431768211456 := numB_lt f 16 h
theorem sub_lessN (f g : Nat → Int) (hf : ∀ j, j < 16 → inB (f j)) (hg : ∀ j, j < 16 → inB (g j)) : numB (subF f g) 16 = lessN (numB f 16) (numB g 16) := by
  have h := sub_num f g 16 hf hg
  have s := numB16 (f := subF f g) fun i _ => in_subF f g i
  have a := numB16 hf; have b := numB16 hg
  have bb := bor_bd f g 16
  rw [show ((256 ^ 16 : Nat) : Int) = 340282366920938463463374607431768211456 from rfl] at h
  unfold lessN
  generalize numB (subF f g) 16 = S at *
  generalize numB f 16 = A at *
  generalize numB g 16 = B at *
  generalize bor f g 16 = c at *
  omega
theorem byt_numB (f : Nat → Int) : ∀ n i, i < n → (∀ j, j < n → inB (f j)) → byt (numB f n) i = f i
  | n + 1, i, hi, h => by
    have fi := h n (by omega)
    obtain ⟨x, ex⟩ := Int.eq_ofNat_of_zero_le fi.1
    have x2 := fi.2
    have hl := numB_lt f n fun j hj => h j (by omega)
    by_cases e : i = n
    · subst e
      unfold byt
      rw [numB, ex, Int.toNat_natCast, Nat.add_mul_div_right _ _ (pow256_pos i), Nat.div_eq_of_lt hl]
      omega
    · rw [← byt_numB f n i (by omega) fun j hj => h j (by omega)]
      unfold byt
      obtain ⟨k, rfl⟩ : ∃ k, n = i + 1 + k := ⟨n - i - 1, by omega⟩
      rw [numB, show (f (i + 1 + k)).toNat * 256 ^ (i + 1 + k) = 256 ^ i * (256 * ((f (i + 1 + k)).toNat * 256 ^ k)) by rw [show i + 1 + k = i + (1 + k) by omega, Nat.pow_add, Nat.pow_add]; grind, Nat.add_mul_div_left _ _ (pow256_pos i), Nat.add_mul_mod_self_left]
attribute [local go_sem] nums_length

set_option maxHeartbeats 8000000 in
theorem less_core_ (f g : Nat → Int) (hf : ∀ i, i < 16 → inB (f i)) (hg : ∀ i, i < 16 → inB (g i)) (w : World) :
    Calls Try.prog 14 #[(.agg (nums .u8 f 16).toArray), (.agg (nums .u8 g 16).toArray)] w fun e w' => e = .returned (.agg (nums .u8 (subF f g) 16).toArray) ∧ Below w.heap.size w w' := by
  have FB := Lib.hid hf; have GB := Lib.hid hg
  clear hf hg
  go_enter Try.func14, Try.ntmps14
  go_upto_region 3 with fail
  obtain ⟨W0, hW⟩ : ∃ W0, W0 = ((((w.alloc (.cells (nums .u8 f 16).toArray 29)).alloc (.cells (nums .u8 g 16).toArray 29)).alloc (.cells #[.int .u8 0, .int .u8 0, .int .u8 0, .int .u8 0, .int .u8 0, .int .u8 0, .int .u8 0, .int .u8 0, .int .u8 0, .int .u8 0, .int .u8 0, .int .u8 0, .int .u8 0, .int .u8 0, .int .u8 0, .int .u8 0] 29)).alloc (.cells #[.int .u8 0, .int .u8 0, .int .u8 0, .int .u8 0, .int .u8 0, .int .u8 0, .int .u8 0, .int .u8 0, .int .u8 0, .int .u8 0, .int .u8 0, .int .u8 0, .int .u8 0, .int .u8 0, .int .u8 0, .int .u8 0] 29)) := ⟨_, rfl⟩
  have hB0 : Below w.heap.size w W0 := hW ▸ (Below.al (Below.al (Below.al (Below.al (Below.refl _ _)))))
  have HX : Hid (Own w.heap.size (nums .u8 f 16) W0) := Lib.hid (hW ▸ (show Own w.heap.size (nums .u8 f 16) (w.alloc (.cells (nums .u8 f 16).toArray 29)) from Own.newAt (by simp)).alloc.alloc.alloc)
  have HY : Hid (Own (w.heap.size + 1) (nums .u8 g 16) W0) := Lib.hid (hW ▸ (show Own (w.heap.size + 1) (nums .u8 g 16) ((w.alloc (.cells (nums .u8 f 16).toArray 29)).alloc (.cells (nums .u8 g 16).toArray 29)) from Own.newAt (by simp)).alloc.alloc)
  have HR : Hid (Own ((w.heap.size + 1) + 1) (nums .u8 (fun _ => 0) 16) W0) := Lib.hid (hW ▸ (show Own ((w.heap.size + 1) + 1) (nums .u8 (fun _ => 0) 16) (((w.alloc (.cells (nums .u8 f 16).toArray 29)).alloc (.cells (nums .u8 g 16).toArray 29)).alloc (.cells #[.int .u8 0, .int .u8 0, .int .u8 0, .int .u8 0, .int .u8 0, .int .u8 0, .int .u8 0, .int .u8 0, .int .u8 0, .int .u8 0, .int .u8 0, .int .u8 0, .int .u8 0, .int .u8 0, .int .u8 0, .int .u8 0] 29)) from Own.newAt (by simp)).alloc)
  have HQ : Hid (Own (((w.heap.size + 1) + 1) + 1) (nums .u8 (fun _ => 0) 16) W0) := Lib.hid (hW ▸ (show Own (((w.heap.size + 1) + 1) + 1) (nums .u8 (fun _ => 0) 16) ((((w.alloc (.cells (nums .u8 f 16).toArray 29)).alloc (.cells (nums .u8 g 16).toArray 29)).alloc (.cells #[.int .u8 0, .int .u8 0, .int .u8 0, .int .u8 0, .int .u8 0, .int .u8 0, .int .u8 0, .int .u8 0, .int .u8 0, .int .u8 0, .int .u8 0, .int .u8 0, .int .u8 0, .int .u8 0, .int .u8 0, .int .u8 0] 29)).alloc (.cells #[.int .u8 0, .int .u8 0, .int .u8 0, .int .u8 0, .int .u8 0, .int .u8 0, .int .u8 0, .int .u8 0, .int .u8 0, .int .u8 0, .int .u8 0, .int .u8 0, .int .u8 0, .int .u8 0, .int .u8 0, .int .u8 0] 29)) from Own.newAt (by simp)))
  rw [← hW]
  clear hW
  obtain ⟨Q, eQ⟩ : ∃ X, X = (((w.heap.size + 1) + 1) + 1) := ⟨_, rfl⟩
  rw [← eQ] at HQ ⊢
  have Qw : w.heap.size ≤ Q := by omega
  obtain ⟨R, eR⟩ : ∃ X, X = ((w.heap.size + 1) + 1) := ⟨_, rfl⟩
  rw [← eR] at HR ⊢
  have Rw : w.heap.size ≤ R := by omega
  obtain ⟨Y, eY⟩ : ∃ X, X = (w.heap.size + 1) := ⟨_, rfl⟩
  rw [← eY] at HY ⊢
  have Yw : w.heap.size ≤ Y := by omega
  obtain ⟨X, eX⟩ : ∃ X, X = w.heap.size := ⟨_, rfl⟩
  rw [← eX] at HX ⊢
  have Xw : w.heap.size ≤ X := by omega
  have nXY : X ≠ Y := by omega
  have nYX : Y ≠ X := by omega
  have nXR : X ≠ R := by omega
  have nRX : R ≠ X := by omega
  have nXQ : X ≠ Q := by omega
  have nQX : Q ≠ X := by omega
  have nYR : Y ≠ R := by omega
  have nRY : R ≠ Y := by omega
  have nYQ : Y ≠ Q := by omega
  have nQY : Q ≠ Y := by omega
  have nRQ : R ≠ Q := by omega
  have nQR : Q ≠ R := by omega
  clear eX eY eR eQ
  go_wp2_with (fail)
  go_loopw [6, 9] (fun bv iv wr => ∃ (i : Nat), i ≤ 16 ∧ bv = .int .i64 (bor f g i) ∧ iv = .int .i64 i ∧ Hid (Below w.heap.size w wr) ∧ Hid (Own X (nums .u8 f 16) wr) ∧ Hid (Own Y (nums .u8 g 16) wr) ∧ Hid (Own Q (nums .u8 (mixL (subF f g) (fun _ => 0) i) 16) wr) ∧ Hid (Own R (nums .u8 (fun _ => 0) 16) wr)) (fun _ iv _ => (16 - (intOf iv).toNat))
  case atStart => exact ⟨0, by omega, rfl, rfl, Lib.hid hB0, HX, HY, HQ, HR⟩
  case round =>
    clear HX HY HQ HR hB0
    obtain ⟨i, hi, rfl, rfl, HB, HX, HY, HQ, HR⟩ := hrel
    by_cases hlt : i < 16
    · have x0 := HX.out.at i _ (nums_at _ _ hlt)
      have y0 := HY.out.at i _ (nums_at _ _ hlt)
      have q0 := HQ.out.at i _ (nums_at _ _ hlt)
      have qf := HQ.out.ok i (by rw [nums_length]; exact hlt)
      have Ql := HQ.out.lt
      have bx := FB.out i hlt; have bY := GB.out i hlt
      have bb := bor_bd f g i
      have bn := bor_next f g i (fun j hj => FB.out j (by omega)) (fun j hj => GB.out j (by omega))
      have ME := fun v hv => mixL_step .u8 (subF f g) (fun _ => 0) i 16 v hv
      rw [show subF f g i = (f i - g i - bor f g i) % 256 from rfl] at ME
      obtain ⟨a_, ea⟩ : ∃ x, f i = x := ⟨_, rfl⟩
      obtain ⟨b_, eb⟩ : ∃ y, g i = y := ⟨_, rfl⟩
      obtain ⟨c_, ec⟩ : ∃ c, bor f g i = c := ⟨_, rfl⟩
      rw [ea] at x0 bx bn ME; rw [eb] at y0 bY bn ME; rw [ec] at bb bn ME ⊢
      unfold inB at bx bY
      have w1 : IntKind.i64.wrap a_ = a_ := IntWalk.i64_in _ (by omega)
      have w2 : IntKind.i64.wrap b_ = b_ := IntWalk.i64_in _ (by omega)
      obtain ⟨d_, ed⟩ : ∃ d, a_ - b_ = d := ⟨_, rfl⟩
      have w3 : IntKind.i64.wrap d_ = d_ := IntWalk.i64_in _ (by omega)
      rw [ed] at bn ME
      obtain ⟨x, ex⟩ : ∃ x, d_ - c_ = x := ⟨_, rfl⟩
      have w4 : IntKind.i64.wrap x = x := IntWalk.i64_in _ (by omega)
      have w5 : x < 0 → IntKind.i64.wrap (x + 256) = x + 256 := fun h => IntWalk.i64_in _ (by omega)
      rw [ex] at bn ME
      obtain ⟨v, ev⟩ : ∃ v, x % 256 = v := ⟨_, rfl⟩
      have w6 : IntKind.u8.wrap x = v := (IntKind.wrap_u8' _).trans ev
      have w7 : IntKind.u8.wrap (x + 256) = v := by rw [IntKind.wrap_u8']; omega
      have v2 : (x + 256) % 256 = v := by omega
      replace ME := Lib.hid (ME v ev.symm)
      have i0 : (0 : Int) ≤ (i : Int) := by omega
      have i1 : (i : Int) < 16 := by omega
      have i63 : (i : Int) + 1 ≤ 9223372036854775807 := by omega
      clear ea eb ec bx bY bb hi
      by_cases hx : x < 0
      · rw [if_pos hx] at bn
        replace w5 := w5 hx
        have BN := Lib.hid bn
        clear bn
        go_wp2_with (fail)
        go_quiet (fail)
        have hD : Below wr.heap.size wr (wr.drewN nq) := below_drewN (Below.refl _ _) _
        have o1 := Lib.hid (ME.out ▸ own_set (v := v) (HQ.out.later hD) hlt)
        have o2 := Lib.hid (Own.far (c := Q) (o := i) (vs := [.int .u8 v]) (HX.out.later hD) nXQ)
        have o3 := Lib.hid (Own.far (c := Q) (o := i) (vs := [.int .u8 v]) (HY.out.later hD) nYQ)
        have o4 := Lib.hid (Own.far (c := Q) (o := i) (vs := [.int .u8 v]) (HR.out.later hD) nRQ)
        have o5 := Lib.hid (Below.setCells (Below.go HB.out hD) Qw [.int .u8 v] i)
        clear ME HX HY HR HQ HB
        go_wp2_with (fail)
        go_roundw
        case rel => (first | exact ⟨i + 1, by omega, by rw [BN.out], by go_num, o5, o2, o3, o1, o4⟩ | ((repeat apply Exists.intro); exact ⟨⟨i + 1, by omega, by rw [BN.out], by go_num, o5, o2, o3, o1, o4⟩, rfl⟩))
        case measure => simp [intOf]; omega
      · rw [if_neg hx] at bn
        have BN := Lib.hid bn
        have hx2 : decide (x < 0) = false := decide_eq_false hx
        clear w5 bn hx
        go_wp2_with (fail)
        go_quiet (fail)
        have hD : Below wr.heap.size wr (wr.drewN nq) := below_drewN (Below.refl _ _) _
        have o1 := Lib.hid (ME.out ▸ own_set (v := v) (HQ.out.later hD) hlt)
        have o2 := Lib.hid (Own.far (c := Q) (o := i) (vs := [.int .u8 v]) (HX.out.later hD) nXQ)
        have o3 := Lib.hid (Own.far (c := Q) (o := i) (vs := [.int .u8 v]) (HY.out.later hD) nYQ)
        have o4 := Lib.hid (Own.far (c := Q) (o := i) (vs := [.int .u8 v]) (HR.out.later hD) nRQ)
        have o5 := Lib.hid (Below.setCells (Below.go HB.out hD) Qw [.int .u8 v] i)
        clear ME HX HY HR HQ HB
        go_wp2_with (fail)
        go_roundw
        case rel => (first | exact ⟨i + 1, by omega, by rw [BN.out], by go_num, o5, o2, o3, o1, o4⟩ | ((repeat apply Exists.intro); exact ⟨⟨i + 1, by omega, by rw [BN.out], by go_num, o5, o2, o3, o1, o4⟩, rfl⟩))
        case measure => simp [intOf]; omega
    · have e4 : i = 16 := by omega
      subst e4
      rw [mixL_all] at HQ
      go_upto_region 13 with fail
      have hB0 := HB.out
      refine wp_region_lit ?_
      refine wpList_load_mid rfl 29 _ rfl Q 0 rfl (nums .u8 (subF f g) 16) _ HQ.out.cell Try.underlying29 rfl (by kernel_rfl) ?_
      refine wpList_store_mid rfl 29 _ _ rfl R 0 (nums .u8 (subF f g) 16).toArray rfl rfl HR.out.free (by kernel_rfl) (nums_all _ _ _) ?_
      change wpList _ _ _ [] _ (wr.setCells R 0 (nums .u8 (subF f g) 16))
      have HRn : Hid (Own R (nums .u8 (subF f g) 16) (wr.setCells R 0 (nums .u8 (subF f g) 16))) := Lib.hid (Own.store HR.out (by simp [nums_length]))
      have HQn : Hid (Own Q (nums .u8 (subF f g) 16) (wr.setCells R 0 (nums .u8 (subF f g) 16))) := Lib.hid (Own.far (o := 0) (vs := (nums .u8 (subF f g) 16)) HQ.out nQR)
      have hB0n : Below w.heap.size w (wr.setCells R 0 (nums .u8 (subF f g) 16)) := Below.setCells hB0 Rw (nums .u8 (subF f g) 16) 0
      clear HR HQ hB0
      generalize (wr.setCells R 0 (nums .u8 (subF f g) 16)) = wz at *
      have HR := HRn
      clear HRn
      have HQ := HQn
      clear HQn
      have hB0 := hB0n
      clear hB0n
      go_wp2_with (fail)
      have hL := run_loadVar_mid (P := Try.prog) _ R 0 29 (nums .u8 (subF f g) 16) _ HR.out.cell Try.underlying29 rfl (by kernel_rfl)
      exact bodyPost_ret (v := .agg (nums .u8 (subF f g) 16).toArray) (res_cell Try.results14 rfl hL) rfl ⟨rfl, hB0⟩

theorem less_any_ (f g : Nat → Int) (hf : ∀ i, i < 16 → inB (f i)) (hg : ∀ i, i < 16 → inB (g i)) (w : World) :
    Calls Try.prog 14 #[(.agg (nums .u8 f 16).toArray), (.agg (nums .u8 g 16).toArray)] w fun e w' => e = .returned (.agg (nums .u8 (byt (lessN (numB f 16) (numB g 16))) 16).toArray) ∧ Below w.heap.size w w' := by
  have h := less_core_ f g hf hg w
  rw [← sub_lessN f g hf hg, nums_congr (g := subF f g) .u8 (fun i hi => byt_numB (subF f g) 16 i hi fun j _ => in_subF f g j)]
  exact h

theorem Cut_any (p : Option Addr) (n c : Nat) (hn : n ≤ 65536) (w : World) :
    Calls Try.prog 30 #[.slice p n c] w fun e w' => e = .returned (.slice p n c) ∧ Below w.heap.size w w' := by
  have hd : decide ((65536 : Int) < (n : Int)) = false := decide_eq_false (by omega)
  go_enter Try.func30, Try.ntmps30
  go_wp2_with (fail)
  go_ret
  exact ⟨rfl, Below.refl _ _⟩
end Go.Proofs.Ytbofihejegbfhaa
