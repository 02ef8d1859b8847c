/- poly.numberOf, poly.lowest. -/
import Derived.Test.YtbofihejegbfhaaNE
import Derived.Lib.Hide
namespace Go.Proofs.Ytbofihejegbfhaa
set_option linter.unusedVariables false
set_option maxRecDepth 2000
set_option linter.unusedSimpArgs false
open Go.RowKit
/-- the number of f's first n bytes, least significant first -/
def numB (f : Nat → Int) : Nat → Nat
  | 0 => 0
  | n + 1 => numB f n + (f n).toNat * 256 ^ n
theorem numB_lt (f : Nat → Int) : ∀ n, (∀ i, i < n → inB (f i)) → numB f n < 256 ^ n
  | 0, _ => by simp [numB]
  | n + 1, h => by
    have ih := numB_lt f n fun i hi => h i (by omega)
    have hb := h n (by omega)
    unfold inB at hb
    have : (f n).toNat * 256 ^ n ≤ 255 * 256 ^ n := Nat.mul_le_mul_right _ (by omega)
    rw [numB, Nat.pow_succ]
    omega
theorem numB_congr {f g : Nat → Int} : ∀ {n : Nat}, (∀ i, i < n → f i = g i) → numB f n = numB g n
  | 0, _ => rfl
  | n + 1, h => by rw [numB, numB, numB_congr (fun i hi => h i (by omega)), h n (by omega)]
theorem pw256 (q r : Nat) : 256 ^ (8 * q + r) = 256 ^ r * 2 ^ (64 * q) := by
  rw [show (256 : Nat) = 2 ^ 8 from rfl, ← Nat.pow_mul, ← Nat.pow_mul, ← Nat.pow_add]; congr 1; omega
theorem pw256_lt {r : Nat} (h : r < 8) : 256 ^ r ≤ 72057594037927936 := by
  have := Nat.pow_le_pow_right (n := 256) (by decide) (show r ≤ 7 by omega)
  simpa using this
/-- the next byte -/
theorem next_byte (f : Nat → Int) (q r : Nat) (hr : r < 8) (h : ∀ i, i < 8 * q + r + 1 → inB (f i)) :
    bits .or .u64 (limb (numB f (8 * q + r)) q) (f (8 * q + r) * 2 ^ (8 * r) % 18446744073709551616) = limb (numB f (8 * q + r + 1)) q ∧
    ∀ j, j ≠ q → limb (numB f (8 * q + r)) j = limb (numB f (8 * q + r + 1)) j := by
  have hl := numB_lt f (8 * q + r) fun i hi => h i (by omega)
  have hl2 := numB_lt f (8 * q + r + 1) fun i hi => h i (by omega)
  have hb := h (8 * q + r) (by omega)
  obtain ⟨b, eb⟩ := Int.eq_ofNat_of_zero_le hb.1
  have hb2 := hb.2
  have e1 : numB f (8 * q + r + 1) = numB f (8 * q + r) + b * 256 ^ r * 2 ^ (64 * q) := by
    rw [numB, eb, pw256, Int.toNat_natCast, Nat.mul_assoc]
  rw [eb] at hb2 ⊢
  have pr := pw256_lt hr
  have p0 : 0 < 256 ^ r := Nat.pow_pos (by decide)
  constructor
  · rw [e1]
    unfold limb
    have hM : 0 < 2 ^ (64 * q) := Nat.two_pow_pos _
    rw [pw256] at hl
    rw [Nat.add_mul_div_right _ _ hM]
    have hd : numB f (8 * q + r) / 2 ^ (64 * q) < 256 ^ r := Nat.div_lt_of_lt_mul (Nat.lt_of_lt_of_eq hl (Nat.mul_comm _ _))
    generalize numB f (8 * q + r) / 2 ^ (64 * q) = d at *
    have e8 : (2 : Int) ^ (8 * r) = ((256 ^ r : Nat) : Int) := by
      rw [Int.natCast_pow, Int.pow_mul]; rfl
    have m1 : b * 256 ^ r ≤ 255 * 256 ^ r := Nat.mul_le_mul_right _ (by omega)
    have e2 : (b : Int) * 2 ^ (8 * r) % 18446744073709551616 = ((2 ^ (8 * r) * b : Nat) : Int) := by
      rw [e8, Nat.pow_mul, show (2 : Nat) ^ 8 = 256 from rfl, ← Int.natCast_mul, Nat.mul_comm (256 ^ r) b]
      omega
    have e3 : 2 ^ (8 * r) = 256 ^ r := by rw [Nat.pow_mul]
    rw [e2, u64_or_nat _ _ (by omega) (by rw [e3, Nat.mul_comm]; omega), Nat.mod_eq_of_lt (by omega), Nat.or_comm, ← Nat.two_pow_add_eq_or_of_lt (i := 8 * r) (by rw [e3]; exact hd), e3, Nat.mul_comm, Nat.add_comm]
    omega
  · intro j hj
    rw [e1]
    by_cases h1 : j < q
    · rw [limb_low _ _ _ _ h1]
    · rw [← e1]
      have hz : ∀ M, M < 256 ^ (8 * q + 8) → limb M j = 0 := by
        intro M hM
        unfold limb
        rw [show 8 * q + 8 = 8 * (q + 1) + 0 by omega, pw256, Nat.pow_zero, Nat.one_mul] at hM
        have : 2 ^ (64 * (q + 1)) ≤ 2 ^ (64 * j) := Nat.pow_le_pow_right (by decide) (by omega)
        rw [Nat.div_eq_of_lt (by omega)]; rfl
      rw [hz _ (Nat.lt_of_lt_of_le hl (Nat.pow_le_pow_right (by decide) (by omega))), hz _ (Nat.lt_of_lt_of_le hl2 (Nat.pow_le_pow_right (by decide) (by omega)))]
theorem next_nums (f : Nat → Int) (q r n : Nat) (v : Int) (hr : r < 8) (h : ∀ i, i < 8 * q + r + 1 → inB (f i)) (hv : v = limb (numB f (8 * q + r + 1)) q) :
    nums .u64 (at1 (limb (numB f (8 * q + r))) q v) n = nums .u64 (limb (numB f (8 * q + r + 1))) n := nums_congr _ fun j _ => by
  unfold at1
  by_cases e : j = q
  · rw [if_pos e, e]; exact hv
  · rw [if_neg e]; exact (next_byte f q r hr h).2 j e
theorem tdiv8 (q r : Nat) (h : r < 8) : ((8 * q + r : Nat) : Int).tdiv 8 = (q : Int) := by
  rw [Int.tdiv_eq_ediv_of_nonneg (by omega)]; omega
theorem tmod8 (q r : Nat) (h : r < 8) : ((8 * q + r : Nat) : Int).tmod 8 = (r : Int) := by
  rw [Int.tmod_eq_emod_of_nonneg (by omega)]; omega
attribute [local go_sem] nums_length

set_option maxHeartbeats 8000000 in
theorem numberOf_any (f : Nat → Int) (b off n c : Nat) (hf : ∀ i, i < n → inB (f i)) (hn : n ≤ 32) (w : World) (hb : Has b off (nums .u8 f n) w) :
    Calls Try.prog 25 #[.slice (some ⟨b, off, none⟩) n c] w fun e w' => e = .returned (.agg (nums .u64 (limb (numB f n)) 4).toArray) ∧ Below w.heap.size w w' := by
  have FB := Lib.hid hf
  have HN := Lib.hid hn
  have HS0 := Lib.hid hb
  have bw := hb.lt
  clear hf hb hn
  go_enter Try.func25, Try.ntmps25
  go_upto_region 2 with fail
  obtain ⟨W0, hW⟩ : ∃ W0, W0 = ((w.alloc (.cells #[.int .u64 0, .int .u64 0, .int .u64 0, .int .u64 0] 59)).alloc (.cells #[.int .u64 0, .int .u64 0, .int .u64 0, .int .u64 0] 59)) := ⟨_, rfl⟩
  have hB0 : Below w.heap.size w W0 := hW ▸ (Below.al (Below.al (Below.refl _ _)))
  have HR : Hid (Own w.heap.size (nums .u64 (fun _ => 0) 4) W0) := Lib.hid (hW ▸ (show Own w.heap.size (nums .u64 (fun _ => 0) 4) (w.alloc (.cells #[.int .u64 0, .int .u64 0, .int .u64 0, .int .u64 0] 59)) from Own.newAt (by simp)).alloc)
  have HQ : Hid (Own (w.heap.size + 1) (nums .u64 (fun _ => 0) 4) W0) := Lib.hid (hW ▸ (show Own (w.heap.size + 1) (nums .u64 (fun _ => 0) 4) ((w.alloc (.cells #[.int .u64 0, .int .u64 0, .int .u64 0, .int .u64 0] 59)).alloc (.cells #[.int .u64 0, .int .u64 0, .int .u64 0, .int .u64 0] 59)) from Own.newAt (by simp)))
  rw [← hW]
  clear hW
  obtain ⟨Q, eQ⟩ : ∃ X, X = (w.heap.size + 1) := ⟨_, rfl⟩
  rw [← eQ] at HQ ⊢
  have Qw : w.heap.size ≤ Q := by omega
  obtain ⟨R, eR⟩ : ∃ X, X = w.heap.size := ⟨_, rfl⟩
  rw [← eR] at HR ⊢
  have Rw : w.heap.size ≤ R := by omega
  have nRQ : R ≠ Q := by omega
  have nQR : Q ≠ R := by omega
  clear eR eQ
  have HS := Lib.hid (HS0.out.later hB0)
  have nbQ : b ≠ Q := by omega
  clear bw
  clear HS0
  go_wp2_with (fail)
  go_loopw [8] (fun iv wr => ∃ (i : Nat), i ≤ n ∧ iv = .int .i64 i ∧ Hid (Below w.heap.size w wr) ∧ Hid (Has b off (nums .u8 f n) wr) ∧ Hid (Own Q (nums .u64 (limb (numB f i)) 4) wr) ∧ Hid (Own R (nums .u64 (fun _ => 0) 4) wr)) (fun iv _ => (n - (intOf iv).toNat))
  case atStart => exact ⟨0, by omega, rfl, Lib.hid hB0, HS, Lib.hid (by rw [show nums .u64 (limb (numB f 0)) 4 = nums .u64 (fun _ => 0) 4 from nums_congr _ fun j _ => by simp [limb, numB]]; exact HQ.out), HR⟩
  case round =>
    clear HS HQ HR hB0
    obtain ⟨i, hi, rfl, HB, HS, HQ, HR⟩ := hrel
    by_cases hlt : i < n
    · obtain ⟨q, r, hr, rfl⟩ : ∃ q r, r < 8 ∧ i = 8 * q + r := ⟨i / 8, i % 8, by omega, by omega⟩
      have hq : q < 4 := by have := HN.out; omega
      have hd := tdiv8 q r hr
      have hm := tmod8 q r hr
      have w1 : IntKind.i64.wrap (q : Int) = (q : Int) := IntWalk.i64_in _ (by omega)
      have w2 : IntKind.i64.wrap (r : Int) = (r : Int) := IntWalk.i64_in _ (by omega)
      have w3 : IntKind.i64.wrap ((r : Int) * 8) = ((8 * r : Nat) : Int) := by rw [IntWalk.i64_in _ (by omega)]; omega
      have x0 := HS.out.at _ _ (nums_at .u8 f hlt)
      have Sl := HS.out.lt
      have y0 := HQ.out.at q _ (nums_at _ _ hq)
      have yf := HQ.out.ok q (by rw [nums_length]; exact hq)
      have Ql := HQ.out.lt
      have nb := (next_byte f q r hr (fun i hi => FB.out i (by omega))).1
      have ME := Lib.hid (fun v hv => next_nums f q r 4 v hr (fun i hi => FB.out i (by omega)) hv)
      have ix := FB.out (8 * q + r) hlt
      obtain ⟨x, ex⟩ : ∃ x, f (8 * q + r) = x := ⟨_, rfl⟩
      obtain ⟨y, ey⟩ : ∃ y, limb (numB f (8 * q + r)) q = y := ⟨_, rfl⟩
      obtain ⟨z, ez⟩ : ∃ z, limb (numB f (8 * q + r + 1)) q = z := ⟨_, rfl⟩
      rw [ex] at x0 nb ix; rw [ey] at y0 nb; rw [ez] at nb
      replace ME := Lib.hid (ME.out z ez.symm)
      replace nb : bits .or .u64 y (IntKind.u64.wrap (x * 2 ^ (8 * (r : Int)).toNat)) = z := by rw [IntKind.wrap_u64, show (8 * (r : Int)).toNat = 8 * r by omega]; exact nb
      have wx : IntKind.u64.wrap x = x := by unfold inB at ix; rw [IntKind.wrap_u64]; omega
      obtain ⟨i, ei⟩ : ∃ i, 8 * q + r = i := ⟨_, rfl⟩
      rw [ei] at hlt hd hm x0 HQ ME ⊢
      have i0 : (0 : Int) ≤ (i : Int) := by omega
      have i1 : (i : Int) < (n : Int) := by omega
      have i63 : (i : Int) + 1 ≤ 9223372036854775807 := by have := HN.out; omega
      have q0 : (0 : Int) ≤ (q : Int) := by omega
      have q4 : (q : Int) < 4 := by omega
      clear ex ey ez ei hi ix
      go_wp2_with (fail)
      refine wp_region_still_tail 12 (by kernel_rfl) (by kernel_rfl) ?_; simp only [List.take_succ_cons, List.take_zero, List.drop_succ_cons, List.drop_zero]; change wpStill _ _ (World.drew _) (fun a1 => wpList _ _ _ _ a1 (World.drew _)) _ _; repeat still_step
      refine wpStill_nil ?_
      have o1 := Lib.hid (ME.out ▸ own_set (v := z) HQ.out.drew hq)
      have o2 := Lib.hid (Has.far (c := Q) (o := q) (vs := [.int .u64 z]) HS.out.drew nbQ)
      have o3 := Lib.hid (Own.far (c := Q) (o := q) (vs := [.int .u64 z]) HR.out.drew nRQ)
      have o4 := Lib.hid (Below.setCells HB.out.drew Qw [.int .u64 z] q)
      clear HQ HS HR HB ME
      go_wp2_with (fail)
      go_roundw
      case rel => (first | exact ⟨i + 1, by omega, by go_num, o4, o2, o1, o3⟩ | ((repeat apply Exists.intro); exact ⟨⟨i + 1, by omega, by go_num, o4, o2, o1, o3⟩, rfl⟩))
      case measure => simp [intOf]; omega
    · have e4 : i = n := by omega
      subst e4
      go_upto_region 7 with fail
      have hB0 := HB.out
      refine wp_region_lit ?_
      refine wpList_load_mid rfl 59 _ rfl Q 0 rfl (nums .u64 (limb (numB f i)) 4) _ HQ.out.cell Try.underlying59 rfl (by kernel_rfl) ?_
      refine wpList_store_mid rfl 59 _ _ rfl R 0 (nums .u64 (limb (numB f i)) 4).toArray rfl rfl HR.out.free (by kernel_rfl) (nums_all _ _ _) ?_
      change wpList _ _ _ [] _ (wr.setCells R 0 (nums .u64 (limb (numB f i)) 4))
      have HRn : Hid (Own R (nums .u64 (limb (numB f i)) 4) (wr.setCells R 0 (nums .u64 (limb (numB f i)) 4))) := Lib.hid (Own.store HR.out (by simp [nums_length]))
      have HQn : Hid (Own Q (nums .u64 (limb (numB f i)) 4) (wr.setCells R 0 (nums .u64 (limb (numB f i)) 4))) := Lib.hid (Own.far (o := 0) (vs := (nums .u64 (limb (numB f i)) 4)) HQ.out nQR)
      have hB0n : Below w.heap.size w (wr.setCells R 0 (nums .u64 (limb (numB f i)) 4)) := Below.setCells hB0 Rw (nums .u64 (limb (numB f i)) 4) 0
      clear HR HQ hB0
      generalize (wr.setCells R 0 (nums .u64 (limb (numB f i)) 4)) = wz at *
      have HR := HRn
      clear HRn
      have HQ := HQn
      clear HQn
      have hB0 := hB0n
      clear hB0n
      go_wp2_with (fail)
      have hL := run_loadVar_mid (P := Try.prog) _ R 0 59 (nums .u64 (limb (numB f i)) 4) _ HR.out.cell Try.underlying59 rfl (by kernel_rfl)
      exact bodyPost_ret (v := .agg (nums .u64 (limb (numB f i)) 4).toArray) (res_cell Try.results25 rfl hL) rfl ⟨rfl, hB0⟩

/-- the i-th byte of N -/
def byt (N i : Nat) : Int := ((N / 256 ^ i % 256 : Nat) : Int)
theorem in_byt (N i : Nat) : inB (byt N i) := by unfold inB byt; omega
theorem limb_byt (N q r : Nat) (hr : r < 8) : limb N q / 2 ^ (8 * r) % 256 = byt N (8 * q + r) := by
  unfold limb byt
  rw [pw256, Nat.mul_comm (256 ^ r) (2 ^ (64 * q)), ← Nat.div_div_eq_div_mul]
  generalize N / 2 ^ (64 * q) = d
  have e : (2 : Int) ^ (8 * r) = ((256 ^ r : Nat) : Int) := by rw [Int.natCast_pow, Int.pow_mul]; rfl
  rw [e, ← Int.natCast_ediv]
  have h : d % 18446744073709551616 / 256 ^ r % 256 = d / 256 ^ r % 256 := by
    have e2 : 18446744073709551616 = 256 ^ r * (256 * 256 ^ (7 - r)) := by
      rw [← Nat.pow_succ', ← Nat.pow_add]; rw [show r + (7 - r + 1) = 8 by omega]
    rw [e2, Nat.mod_mul_right_div_self, Nat.mod_mul_right_mod]
  omega

set_option maxHeartbeats 8000000 in
theorem lowest_any (N : Nat) (w : World) :
    Calls Try.prog 29 #[(.agg (nums .u64 (limb N) 4).toArray)] w fun e w' => e = .returned (.agg (nums .u8 (byt N) 16).toArray) ∧ Below w.heap.size w w' := by
  go_enter Try.func29, Try.ntmps29
  go_upto_region 2 with fail
  obtain ⟨W0, hW⟩ : ∃ W0, W0 = (((w.alloc (.cells (nums .u64 (limb N) 4).toArray 59)).alloc (.cells #[.int .u8 0, .int .u8 0, .int .u8 0, .int .u8 0, .int .u8 0, .int .u8 0, .int .u8 0, .int .u8 0, .int .u8 0, .int .u8 0, .int .u8 0, .int .u8 0, .int .u8 0, .int .u8 0, .int .u8 0, .int .u8 0] 29)).alloc (.cells #[.int .u8 0, .int .u8 0, .int .u8 0, .int .u8 0, .int .u8 0, .int .u8 0, .int .u8 0, .int .u8 0, .int .u8 0, .int .u8 0, .int .u8 0, .int .u8 0, .int .u8 0, .int .u8 0, .int .u8 0, .int .u8 0] 29)) := ⟨_, rfl⟩
  have hB0 : Below w.heap.size w W0 := hW ▸ (Below.al (Below.al (Below.al (Below.refl _ _))))
  have HX : Hid (Own w.heap.size (nums .u64 (limb N) 4) W0) := Lib.hid (hW ▸ (show Own w.heap.size (nums .u64 (limb N) 4) (w.alloc (.cells (nums .u64 (limb N) 4).toArray 59)) from Own.newAt (by simp)).alloc.alloc)
  have HR : Hid (Own (w.heap.size + 1) (nums .u8 (fun _ => 0) 16) W0) := Lib.hid (hW ▸ (show Own (w.heap.size + 1) (nums .u8 (fun _ => 0) 16) ((w.alloc (.cells (nums .u64 (limb N) 4).toArray 59)).alloc (.cells #[.int .u8 0, .int .u8 0, .int .u8 0, .int .u8 0, .int .u8 0, .int .u8 0, .int .u8 0, .int .u8 0, .int .u8 0, .int .u8 0, .int .u8 0, .int .u8 0, .int .u8 0, .int .u8 0, .int .u8 0, .int .u8 0] 29)) from Own.newAt (by simp)).alloc)
  have HQ : Hid (Own ((w.heap.size + 1) + 1) (nums .u8 (fun _ => 0) 16) W0) := Lib.hid (hW ▸ (show Own ((w.heap.size + 1) + 1) (nums .u8 (fun _ => 0) 16) (((w.alloc (.cells (nums .u64 (limb N) 4).toArray 59)).alloc (.cells #[.int .u8 0, .int .u8 0, .int .u8 0, .int .u8 0, .int .u8 0, .int .u8 0, .int .u8 0, .int .u8 0, .int .u8 0, .int .u8 0, .int .u8 0, .int .u8 0, .int .u8 0, .int .u8 0, .int .u8 0, .int .u8 0] 29)).alloc (.cells #[.int .u8 0, .int .u8 0, .int .u8 0, .int .u8 0, .int .u8 0, .int .u8 0, .int .u8 0, .int .u8 0, .int .u8 0, .int .u8 0, .int .u8 0, .int .u8 0, .int .u8 0, .int .u8 0, .int .u8 0, .int .u8 0] 29)) from Own.newAt (by simp)))
  rw [← hW]
  clear hW
  obtain ⟨Q, eQ⟩ : ∃ X, X = ((w.heap.size + 1) + 1) := ⟨_, rfl⟩
  rw [← eQ] at HQ ⊢
  have Qw : w.heap.size ≤ Q := by omega
  obtain ⟨R, eR⟩ : ∃ X, X = (w.heap.size + 1) := ⟨_, rfl⟩
  rw [← eR] at HR ⊢
  have Rw : w.heap.size ≤ R := by omega
  obtain ⟨X, eX⟩ : ∃ X, X = w.heap.size := ⟨_, rfl⟩
  rw [← eX] at HX ⊢
  have Xw : w.heap.size ≤ X := by omega
  have nXR : X ≠ R := by omega
  have nRX : R ≠ X := by omega
  have nXQ : X ≠ Q := by omega
  have nQX : Q ≠ X := by omega
  have nRQ : R ≠ Q := by omega
  have nQR : Q ≠ R := by omega
  clear eX eR eQ
  go_wp2_with (fail)
  go_loopw [5] (fun iv wr => ∃ (i : Nat), i ≤ 16 ∧ iv = .int .i64 i ∧ Hid (Below w.heap.size w wr) ∧ Hid (Own X (nums .u64 (limb N) 4) wr) ∧ Hid (Own Q (nums .u8 (mixL (byt N) (fun _ => 0) i) 16) wr) ∧ Hid (Own R (nums .u8 (fun _ => 0) 16) wr)) (fun iv _ => (16 - (intOf iv).toNat))
  case atStart => exact ⟨0, by omega, rfl, Lib.hid hB0, HX, HQ, HR⟩
  case round =>
    clear HX HQ HR hB0
    obtain ⟨i, hi, rfl, HB, HX, HQ, HR⟩ := hrel
    by_cases hlt : i < 16
    · obtain ⟨q, r, hr, rfl⟩ : ∃ q r, r < 8 ∧ i = 8 * q + r := ⟨i / 8, i % 8, by omega, by omega⟩
      have hq : q < 4 := by omega
      have hd := tdiv8 q r hr
      have hm := tmod8 q r hr
      have w1 : IntKind.i64.wrap (q : Int) = (q : Int) := IntWalk.i64_in _ (by omega)
      have w2 : IntKind.i64.wrap (r : Int) = (r : Int) := IntWalk.i64_in _ (by omega)
      have w3 : IntKind.i64.wrap ((r : Int) * 8) = ((8 * r : Nat) : Int) := by rw [IntWalk.i64_in _ (by omega)]; omega
      have y0 := HX.out.at q _ (nums_at _ _ hq)
      have x0 := HQ.out.at _ _ (nums_at _ _ hlt)
      have xf := HQ.out.ok _ (show 8 * q + r < _ by rw [nums_length]; exact hlt)
      have Ql := HQ.out.lt
      have Xl := HX.out.lt
      have lb := limb_byt N q r hr
      obtain ⟨y, ey⟩ : ∃ y, limb N q = y := ⟨_, rfl⟩
      obtain ⟨z, ez⟩ : ∃ z, byt N (8 * q + r) = z := ⟨_, rfl⟩
      rw [ey] at y0 lb; rw [ez] at lb
      have ME := Lib.hid (mixL_step .u8 (byt N) (fun _ => 0) (8 * q + r) 16 z ez.symm)
      have lb2 : IntKind.u8.wrap (y / 2 ^ (8 * (r : Int)).toNat) = z := by rw [IntKind.wrap_u8', show (8 * (r : Int)).toNat = 8 * r by omega]; exact lb
      obtain ⟨i, ei⟩ : ∃ i, 8 * q + r = i := ⟨_, rfl⟩
      rw [ei] at hlt hd hm HQ ME x0 xf ⊢
      have i0 : (0 : Int) ≤ (i : Int) := by omega
      have i1 : (i : Int) < 16 := by omega
      have i63 : (i : Int) + 1 ≤ 9223372036854775807 := by omega
      have q0 : (0 : Int) ≤ (q : Int) := by omega
      have q4 : (q : Int) < 4 := by omega
      have o1 := Lib.hid (ME.out ▸ own_set (v := z) HQ.out hlt)
      have o2 := Lib.hid (Own.far (c := Q) (o := i) (vs := [.int .u8 z]) HX.out nXQ)
      have o3 := Lib.hid (Own.far (c := Q) (o := i) (vs := [.int .u8 z]) HR.out nRQ)
      have o4 := Lib.hid (Below.setCells HB.out Qw [.int .u8 z] i)
      clear ey ez ei hi ME HQ HX HR HB
      go_wp2_with (fail)
      go_roundw
      case rel => (first | exact ⟨i + 1, by omega, by go_num, o4, o2, o1, o3⟩ | ((repeat apply Exists.intro); exact ⟨⟨i + 1, by omega, by go_num, o4, o2, o1, o3⟩, rfl⟩))
      case measure => simp [intOf]; omega
    · have e4 : i = 16 := by omega
      subst e4
      rw [mixL_all] at HQ
      go_upto_region 7 with fail
      have hB0 := HB.out
      refine wp_region_lit ?_
      refine wpList_load_mid rfl 29 _ rfl Q 0 rfl (nums .u8 (byt N) 16) _ HQ.out.cell Try.underlying29 rfl (by kernel_rfl) ?_
      refine wpList_store_mid rfl 29 _ _ rfl R 0 (nums .u8 (byt N) 16).toArray rfl rfl HR.out.free (by kernel_rfl) (nums_all _ _ _) ?_
      change wpList _ _ _ [] _ (wr.setCells R 0 (nums .u8 (byt N) 16))
      have HRn : Hid (Own R (nums .u8 (byt N) 16) (wr.setCells R 0 (nums .u8 (byt N) 16))) := Lib.hid (Own.store HR.out (by simp [nums_length]))
      have HQn : Hid (Own Q (nums .u8 (byt N) 16) (wr.setCells R 0 (nums .u8 (byt N) 16))) := Lib.hid (Own.far (o := 0) (vs := (nums .u8 (byt N) 16)) HQ.out nQR)
      have hB0n : Below w.heap.size w (wr.setCells R 0 (nums .u8 (byt N) 16)) := Below.setCells hB0 Rw (nums .u8 (byt N) 16) 0
      clear HR HQ hB0
      generalize (wr.setCells R 0 (nums .u8 (byt N) 16)) = wz at *
      have HR := HRn
      clear HRn
      have HQ := HQn
      clear HQn
      have hB0 := hB0n
      clear hB0n
      go_wp2_with (fail)
      have hL := run_loadVar_mid (P := Try.prog) _ R 0 29 (nums .u8 (byt N) 16) _ HR.out.cell Try.underlying29 rfl (by kernel_rfl)
      exact bodyPost_ret (v := .agg (nums .u8 (byt N) 16).toArray) (res_cell Try.results29 rfl hL) rfl ⟨rfl, hB0⟩
end Go.Proofs.Ytbofihejegbfhaa
