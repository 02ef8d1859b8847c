/- DA DB DC DD DG DE DF DJ DK DL DM DN DO DQ DP, in one text. -/
import Derived.Test.YtokfhhngnpbdkaaDoorMB0
import Derived.Lib.Hide
import Derived.LoopN
import Derived.LoopTactic
import Derived.Deep.Onto
import Derived.Deep.WholeRow
import Derived.Laws.MakeOwn
import Derived.Deep.QuietTactic
import Derived.BigQuiet
import Derived.Laws.BitsAllLaws
import Derived.Lib.SliceRun
/- DA -/
namespace Go.Proofs.YtokfhhngnpbdkaaDoor
set_option linter.unusedVariables false
set_option maxRecDepth 2000
set_option linter.unusedSimpArgs false
open Go.RowKit
/-- 256 to the power of w -/
def pw (W : Nat) : Int := (256 : Int) ^ W
theorem pw_succ (W : Nat) : pw (W + 1) = 256 * pw W := by unfold pw; rw [Int.pow_succ]; exact Int.mul_comm _ _
theorem pw_zero : pw 0 = 1 := rfl
theorem pw_pos (W : Nat) : 0 < pw W := by unfold pw; exact Int.pow_pos (by decide)
theorem pw_two (i : Nat) : pw i = (2 : Int) ^ (8 * i) := by
  unfold pw
  rw [Int.pow_mul]
  rfl
theorem pw_add (a b : Nat) : pw (a + b) = pw a * pw b := by unfold pw; exact Int.pow_add _ _ _
/-- the i-th digit -/
def dg (z : Int) (i : Nat) : Int := z / pw i % 256
theorem in_dg (z : Int) (i : Nat) : inB (dg z i) := by unfold inB dg; omega
/-- bytes, and behind them numbers of W bytes each -/
def outF (f : Nat → Int) (m W : Nat) (g : Nat → Int) (j : Nat) : Int := if j < m then f j else dg (g ((j - m) / W)) ((j - m) % W)
theorem outF_head (f : Nat → Int) (m W : Nat) (g : Nat → Int) {j : Nat} (h : j < m) : outF f m W g j = f j := by unfold outF; rw [if_pos h]
theorem outF_dg (f : Nat → Int) (m W : Nat) (g : Nat → Int) (k i : Nat) (h : i < W) : outF f m W g (m + W * k + i) = dg (g k) i := by
  unfold outF
  have e : m + W * k + i - m = i + W * k := by omega
  rw [if_neg (by omega), e, Nat.add_mul_div_left _ _ (by omega), Nat.div_eq_of_lt h, Nat.zero_add, Nat.add_mul_mod_self_left, Nat.mod_eq_of_lt h]
theorem in_outF (f : Nat → Int) (m W : Nat) (g : Nat → Int) (j : Nat) (hf : ∀ i, i < m → inB (f i)) : inB (outF f m W g j) := by
  unfold outF
  split
  · exact hf j (by assumption)
  · exact in_dg _ _
theorem outF_congr (f f' : Nat → Int) (m W n : Nat) (g g' : Nat → Int) (hf : ∀ j, j < m → f j = f' j) (hg : ∀ k i, k < n → i < W → dg (g k) i = dg (g' k) i) {j : Nat} (hj : j < m + W * n) : outF f m W g j = outF f' m W g' j := by
  unfold outF
  by_cases h : j < m
  · rw [if_pos h, if_pos h, hf j h]
  · rw [if_neg h, if_neg h]
    have hW : 0 < W := by
      rcases Nat.eq_zero_or_pos W with h0 | h0
      · subst h0; omega
      · exact h0
    exact hg _ _ (Nat.div_lt_of_lt_mul (by omega)) (Nat.mod_lt _ hW)
/-- all of the first n -/
def allB (p : Nat → Bool) : Nat → Bool
  | 0 => true
  | n + 1 => allB p n && p n
theorem allB_iff {p : Nat → Bool} {n : Nat} : allB p n = true ↔ ∀ k, k < n → p k = true := by
  induction n with
  | zero => simp [allB]
  | succ n ih =>
    simp only [allB, Bool.and_eq_true, ih]
    exact ⟨fun h k hk => (Nat.lt_succ_iff_lt_or_eq.1 hk).elim (h.1 k) (fun e => e ▸ h.2), fun h => ⟨fun k hk => h k (by omega), h n (by omega)⟩⟩
theorem allB_not {p : Nat → Bool} {n k : Nat} (hk : k < n) (h : p k = false) : allB p n = false := by
  cases e : allB p n with
  | false => rfl
  | true => exact absurd (allB_iff.1 e k hk) (by simp [h])
theorem allB_congr {p q : Nat → Bool} {n : Nat} (h : ∀ k, k < n → p k = q k) : allB p n = allB q n := by
  induction n with
  | zero => rfl
  | succ n ih => rw [allB, allB, ih (fun k hk => h k (by omega)), h n (by omega)]
/-- a number that fits, one with a sign that fits -/
def fitU (W : Nat) (z : Int) : Bool := decide (z < pw W)
def fitS (W : Nat) (z : Int) : Bool := decide (-pw W ≤ 2 * z ∧ 2 * z < pw W)
def badW (wd : Int) : Bool := decide (wd < 1 ∨ 8 < wd)
/-- the error of Put and Signed, and how many bytes they tell -/
def putE (fit : Nat → Int → Bool) (wd : Int) (n : Nat) (g : Nat → Int) : Int := if badW wd then 2 else if allB (fun k => fit wd.toNat (g k)) n then 0 else 3
def putL (m n : Nat) (wd E : Int) : Nat := if E = 0 then m + wd.toNat * n else 0
theorem wide_cases {W : Nat} (h1 : 1 ≤ W) (h8 : W ≤ 8) : W = 1 ∨ W = 2 ∨ W = 3 ∨ W = 4 ∨ W = 5 ∨ W = 6 ∨ W = 7 ∨ W = 8 := by omega
theorem pw_vals : pw 1 = 256 ∧ pw 2 = 65536 ∧ pw 3 = 16777216 ∧ pw 4 = 4294967296 ∧ pw 5 = 1099511627776 ∧ pw 6 = 281474976710656 ∧ pw 7 = 72057594037927936 ∧ pw 8 = 18446744073709551616 := by
  refine ⟨rfl, rfl, rfl, rfl, rfl, rfl, rfl, rfl⟩
theorem pw_le {W : Nat} (h8 : W ≤ 8) : pw W ≤ 18446744073709551616 := by
  obtain ⟨p1, p2, p3, p4, p5, p6, p7, p8⟩ := pw_vals
  rcases Nat.eq_zero_or_pos W with h | h
  · subst h; rw [pw_zero]; decide
  · rcases wide_cases h h8 with rfl | rfl | rfl | rfl | rfl | rfl | rfl | rfl
    · rw [p1]; decide
    · rw [p2]; decide
    · rw [p3]; decide
    · rw [p4]; decide
    · rw [p5]; decide
    · rw [p6]; decide
    · rw [p7]; decide
    · rw [p8]; decide
theorem pw_even {W : Nat} (h : 1 ≤ W) : pw W % 2 = 0 := by
  obtain ⟨k, rfl⟩ : ∃ k, W = k + 1 := ⟨W - 1, by omega⟩
  rw [pw_succ]
  omega
/-- the number of n bytes, least significant first -/
def leN (f : Nat → Int) : Nat → Int
  | 0 => 0
  | n + 1 => leN f n + pw n * f n
theorem leN_lt (f : Nat → Int) (n : Nat) (h : ∀ j, j < n → inB (f j)) : 0 ≤ leN f n ∧ leN f n < pw n := by
  induction n with
  | zero => simp [leN, pw_zero]
  | succ n ih =>
    have := ih fun j hj => h j (by omega)
    have hb := h n (by omega)
    unfold inB at hb
    rw [leN, pw_succ]
    have hp := pw_pos n
    constructor
    · exact Int.add_nonneg this.1 (Int.mul_nonneg (Int.le_of_lt hp) hb.1)
    · have : pw n * f n ≤ pw n * 255 := Int.mul_le_mul_of_nonneg_left (by omega) (Int.le_of_lt hp)
      omega
theorem leN_congr {f g : Nat → Int} {n : Nat} (h : ∀ j, j < n → f j = g j) : leN f n = leN g n := by
  induction n with
  | zero => rfl
  | succ n ih => rw [leN, leN, ih (fun j hj => h j (by omega)), h n (by omega)]
/-- digits, and the number of them -/
theorem leN_dg (z : Int) (n : Nat) : leN (dg z) n = z % pw n := by
  induction n with
  | zero => rw [leN, pw_zero]; omega
  | succ n ih =>
    rw [leN, ih, dg, pw_succ]
    have hp := pw_pos n
    -- z % (256 p) = z % p + p (z / p % 256)
    have h1 := Int.emod_add_mul_ediv z (pw n)
    have h2 := Int.emod_add_mul_ediv (z / pw n) 256
    have r0 := Int.emod_nonneg z (Int.ne_of_gt hp)
    have r1 := Int.emod_lt_of_pos z hp
    generalize pw n = p at *
    generalize z % p = r at *
    generalize z / p = q at *
    have d0 := Int.emod_nonneg q (show (256 : Int) ≠ 0 by decide)
    have d1 := Int.emod_lt_of_pos q (show (0 : Int) < 256 by decide)
    generalize q % 256 = d at *
    generalize q / 256 = e at *
    subst h2 h1
    have e1 : r + p * (d + 256 * e) = (r + p * d) + 256 * p * e := by grind
    rw [e1, Int.add_mul_emod_self_left]
    have : 0 ≤ p * d := Int.mul_nonneg (Int.le_of_lt hp) d0
    have : p * d ≤ p * 255 := Int.mul_le_mul_of_nonneg_left (by omega) (Int.le_of_lt hp)
    rw [Int.emod_eq_of_lt (by omega) (by omega)]
/-- digits of numbers that differ by a power -/
theorem dg_add (z : Int) (W i : Nat) (h : i < W) : dg (pw W + z) i = dg z i := by
  unfold dg
  obtain ⟨k, rfl⟩ : ∃ k, W = i + (k + 1) := ⟨W - i - 1, by omega⟩
  rw [pw_add, pw_succ, Int.mul_add_ediv_left _ _ (Int.ne_of_gt (pw_pos i)), Int.add_comm, Int.add_mul_emod_self_left]
theorem dg_next (z : Int) (i : Nat) : z / pw i / 256 = z / pw (i + 1) := by
  rw [Int.ediv_ediv, if_neg (fun h => absurd h.1 (Int.not_lt.2 (Int.le_of_lt (pw_pos i)))), Int.sub_zero, pw_succ, Int.mul_comm]
/-- the number of the bytes as a signed one -/
def sgn (z : Int) (W : Nat) : Int := if pw W ≤ 2 * z then z - pw W else z
theorem sgn_back (z : Int) (W : Nat) (h1 : 1 ≤ W) (h : fitS W z = true) : sgn (z % pw W) W = z := by
  have hp := pw_pos W
  have he := pw_even h1
  simp only [fitS, decide_eq_true_eq] at h
  unfold sgn
  by_cases h0 : 0 ≤ z
  · rw [Int.emod_eq_of_lt h0 (by omega), if_neg (by omega)]
  · have e : z % pw W = z + pw W := by
      rw [← Int.add_emod_right, Int.emod_eq_of_lt (by omega) (by omega)]
    rw [e, if_pos (by omega)]
    omega
end Go.Proofs.YtokfhhngnpbdkaaDoor

/- DB -/
namespace Go.Proofs.YtokfhhngnpbdkaaDoor
set_option linter.unusedVariables false
set_option maxRecDepth 2000
set_option linter.unusedSimpArgs false
open Go.RowKit
theorem fitU_shift (W : Nat) (x : Int) (hx : 0 ≤ x) : (x / 2 ^ (8 * W) == 0) = fitU W x := by
  have hp := pw_pos W
  rw [← pw_two]
  unfold fitU
  by_cases h : x < pw W
  · rw [Int.ediv_eq_zero_of_lt hx h]; simp [h]
  · have : 1 ≤ x / pw W := (Int.le_ediv_iff_mul_le hp).2 (by omega)
    have e : ¬x / pw W = 0 := by omega
    simp [h, e]
theorem pw_half (W k : Nat) (h1 : 1 ≤ W) (ek : 8 * W - 1 = k) : pw W = 2 * 2 ^ k := by
  rw [pw_two, show 8 * W = k + 1 by omega, Int.pow_succ, Int.mul_comm]
theorem fitS_shift (W k : Nat) (x : Int) (h1 : 1 ≤ W) (ek : 8 * W - 1 = k) : fitS W x = decide (x / 2 ^ k = 0 ∨ x / 2 ^ k = -1) := by
  have hp : (0 : Int) < 2 ^ k := Int.pow_pos (by decide)
  have e := pw_half W k h1 ek
  unfold fitS
  rw [e]
  generalize (2 : Int) ^ k = p at *
  have a := Int.emod_add_mul_ediv x p
  have b := Int.emod_nonneg x (Int.ne_of_gt hp)
  have c := Int.emod_lt_of_pos x hp
  by_cases h0 : x / p = 0
  · rw [h0] at a ⊢
    simp only [Int.mul_zero] at a
    simp
    omega
  · by_cases h2 : x / p = -1
    · rw [h2] at a ⊢
      simp
      omega
    · simp only [h0, h2, or_self, decide_false, decide_eq_false_iff_not]
      intro ⟨l, r⟩
      rcases Int.lt_or_lt_of_ne h0 with h3 | h3
      · have : p * (x / p) ≤ p * -2 := Int.mul_le_mul_of_nonneg_left (by omega) (Int.le_of_lt hp)
        omega
      · have : p * 1 ≤ p * (x / p) := Int.mul_le_mul_of_nonneg_left (by omega) (Int.le_of_lt hp)
        omega
theorem FitU_any (W : Nat) (x : Int) (B : Nat) (h1 : 1 ≤ W) (h8 : W ≤ 8) (hx : 0 ≤ x) (hx2 : x < 18446744073709551616) (w : World) (hB : w.cell? ⟨B, 0, none⟩ = some (.int .i64 W)) :
    Calls Tryd.prog 79 #[.int .u64 x, .pointer (some ⟨B, 0, none⟩)] w fun e w' => e = .returned (.bool (fitU W x)) ∧ w' = w := by
  have w8 : IntKind.i64.wrap (8 * (W : Int)) = ((8 * W : Nat) : Int) := by rw [IntWalk.i64_in _ (by omega)]; omega
  have R := fitU_shift W x hx
  go_enter Tryd.func79, Tryd.ntmps79
  go_wp2_with (fail)
  go_ret
  exact ⟨by rw [← R]; rfl, rfl⟩
theorem FitS_any (W : Nat) (x : Int) (B : Nat) (h1 : 1 ≤ W) (h8 : W ≤ 8) (hx : -9223372036854775808 ≤ x) (hx2 : x ≤ 9223372036854775807) (w : World) (hB : w.cell? ⟨B, 0, none⟩ = some (.int .i64 W)) :
    Calls Tryd.prog 81 #[.int .i64 x, .pointer (some ⟨B, 0, none⟩)] w fun e w' => e = .returned (.bool (fitS W x)) ∧ w' = w := by
  obtain ⟨k, ek⟩ : ∃ k, 8 * W - 1 = k := ⟨_, rfl⟩
  have w8 : IntKind.i64.wrap (8 * (W : Int)) = 8 * (W : Int) := by rw [IntWalk.i64_in _ (by omega)]
  have w9 : IntKind.i64.wrap (8 * (W : Int) - 1) = (k : Int) := by rw [IntWalk.i64_in _ (by omega)]; omega
  have R := fitS_shift W k x h1 ek
  by_cases h0 : x / 2 ^ k = 0
  · go_enter Tryd.func81, Tryd.ntmps81
    go_wp2_with (fail)
    go_ret
    exact ⟨by rw [R]; simp [h0], rfl⟩
  · go_enter Tryd.func81, Tryd.ntmps81
    go_wp2_with (fail)
    go_ret
    refine ⟨?_, rfl⟩
    rw [R]
    have e : (x / 2 ^ k == 0 || x / 2 ^ k == -1) = decide (x / 2 ^ k = 0 ∨ x / 2 ^ k = -1) := by
      by_cases a : x / 2 ^ k = -1 <;> simp [h0, a]
    rw [← e]
    rfl

set_option maxHeartbeats 4000000 in
theorem most_any (W : Nat) (h8 : W ≤ 8) (w : World) : Calls Tryd.prog 62 #[.int .i64 W] w fun e w' => e = .returned (.int .u64 (pw W - 1)) ∧ w' = w := by
  have H8 := Lib.hid h8
  clear h8
  go_enter Tryd.func62, Tryd.ntmps62
  go_wp2_with (fail)
  go_loopw [3, 4] (fun mv iv wr => ∃ (k : Nat) (M : Int), k ≤ W ∧ mv = .int .u64 M ∧ Hid (M = pw k - 1) ∧ iv = .int .i64 k ∧ wr = w) (fun _ iv _ => (W - (intOf iv).toNat))
  case atStart => exact ⟨0, 0, Nat.zero_le _, rfl, Lib.hid rfl, rfl, rfl⟩
  case round =>
    obtain ⟨k, M, hk, rfl, HM, rfl, rfl⟩ := hrel
    by_cases hlt : k < W
    · have hki : (k : Int) < (W : Int) := by omega
      have k0 : (0 : Int) ≤ (k : Int) := by omega
      have wk : IntKind.i64.wrap ((k : Int) + 1) = (k : Int) + 1 := IntWalk.i64_in _ (by have := H8.out; omega)
      have HM2 : Hid (M * 256 + 255 = pw (k + 1) - 1) := Lib.hid (by rw [HM.out, pw_succ]; omega)
      have b1 : 0 ≤ M := by have := HM.out; have := pw_pos k; omega
      have b2 : M * 256 + 255 < 18446744073709551616 := by have := HM2.out; have := pw_le (show k + 1 ≤ 8 by have := H8.out; omega); omega
      have u1 : IntKind.u64.wrap (M * 256) = M * 256 := IntWalk.u64_in _ (by omega)
      have u2 : IntKind.u64.wrap (M * 256 + 255) = M * 256 + 255 := IntWalk.u64_in _ (by omega)
      clear hk b1 b2 HM
      go_wp2_with (fail)
      go_roundw
      case rel => (first | exact ⟨k + 1, _, by omega, rfl, HM2, by go_num, (by first | rfl | trivial)⟩ | ((repeat apply Exists.intro); exact ⟨⟨k + 1, _, by omega, rfl, HM2, by go_num, (by first | rfl | trivial)⟩, rfl⟩))
      case measure => simp [intOf]; omega
    · obtain rfl : k = W := by omega
      go_wp2_with (fail)
      go_ret
      exact ⟨by rw [← HM.out]; rfl, rfl⟩
end Go.Proofs.YtokfhhngnpbdkaaDoor

/- DC -/
namespace Go.Proofs.YtokfhhngnpbdkaaDoor
set_option linter.unusedVariables false
set_option maxRecDepth 2000
set_option linter.unusedSimpArgs false
open Go.RowKit
attribute [local go_sem] nums_length
/-- a slice that holds f's first n numbers of a kind -/
def Nm (w : World) (k : IntKind) (q : Option Addr) (n : Nat) (f : Nat → Int) : Prop := n = 0 ∨ ∃ b off, q = some ⟨b, off, none⟩ ∧ Has b off (nums k f n) w
theorem Nm.later {w w' : World} {k : IntKind} {q : Option Addr} {n : Nat} {f : Nat → Int} (h : Nm w k q n f) (hb : Below w.heap.size w w') : Nm w' k q n f := by
  rcases h with h | ⟨b, off, h1, h2⟩
  · exact .inl h
  · exact .inr ⟨b, off, h1, h2.later hb⟩
theorem Nm.at {w : World} {k : IntKind} {q : Option Addr} {n i : Nat} {f : Nat → Int} (h : Nm w k q n f) (hi : i < n) : ∃ D o, q = some ⟨D, o, none⟩ ∧ D < w.heap.size ∧ w.cell? ⟨D, o + i, none⟩ = some (.int k (f i)) := by
  obtain ⟨D, o, h1, h2⟩ := h.resolve_left (by omega)
  exact ⟨D, o, h1, h2.lt, h2.at i _ (nums_at _ _ hi)⟩
set_option maxHeartbeats 8000000 in
theorem PutU_any (q p : Option Addr) (m c n c2 : Nat) (wd : Int) (f g : Nat → Int) (B : Nat) (hg : ∀ k, k < n → 0 ≤ g k ∧ g k ≤ 18446744073709551615) (hmc : m ≤ c) (hc : c ≤ 9223372036854775807) (hnc : n ≤ c2) (hc2 : c2 ≤ 9223372036854775807) (hsz : m + 8 * n ≤ 70368744177664) (w : World) (hB : Has B 0 [.int .i64 wd] w) (hq : Byt w q m f) (hp : Nm w .u64 p n g) :
    Calls Tryd.prog 78 #[.slice q m c, .int .i64 wd, .slice p n c2, .func (.func 79) #[] #[.pointer (some ⟨B, 0, none⟩)]] w fun e w' => ∃ v, e = .returned (.tuple #[v, .int .i64 (putE fitU wd n g)]) ∧ w'.ownsRow w.heap.size 5 1 v (putL m n wd (putE fitU wd n g)) (nums .u8 (outF f m wd.toNat g) (putL m n wd (putE fitU wd n g))) ∧ Below w.heap.size w w' := by
  have HG := Lib.hid hg; have HMC := Lib.hid hmc; have HC := Lib.hid hc; have HNC := Lib.hid hnc; have HC2 := Lib.hid hc2; have HSZ := Lib.hid hsz; have HQ := Lib.hid hq; have HP := Lib.hid hp; have HB0 := Lib.hid hB
  clear hg hmc hc hnc hc2 hsz hq hp hB
  obtain ⟨i0, hi, hz0, hz1, hz2⟩ := infoB_parts
  by_cases hbad : wd < 1 ∨ 8 < wd
  · have E : putE fitU wd n g = 2 := by unfold putE badW; rw [if_pos (by simpa using hbad)]
    have L0 : putL m n wd 2 = 0 := rfl
    rw [E, L0]
    by_cases h1 : wd < 1
    · clear hbad E
      go_enter Tryd.func78, Tryd.ntmps78
      go_wp2_with (fail)
      exact bodyPost_ret (v := .tuple #[.slice none 0 0, .int .i64 2]) (by simp [results, Tryd.results78, go_sem]) rfl ⟨_, rfl, World.ownsRow_nil _ _ _ _, Below.refl _ _⟩
    · have h8 : 8 < wd := by omega
      clear hbad E
      go_enter Tryd.func78, Tryd.ntmps78
      go_wp2_with (fail)
      exact bodyPost_ret (v := .tuple #[.slice none 0 0, .int .i64 2]) (by simp [results, Tryd.results78, go_sem]) rfl ⟨_, rfl, World.ownsRow_nil _ _ _ _, Below.refl _ _⟩
  · obtain ⟨W, rfl⟩ : ∃ W : Nat, wd = (W : Int) := ⟨wd.toNat, by omega⟩
    have h1 : 1 ≤ W := by omega
    have h8 : W ≤ 8 := by omega
    have g1 : ¬((W : Int) < 1) := by omega
    have g8 : ¬(8 < (W : Int)) := by omega
    have EE : putE fitU (W : Int) n g = if allB (fun k => fitU W (g k)) n then 0 else 3 := by unfold putE badW; rw [if_neg (by simpa using hbad), Int.toNat_natCast]
    rw [EE, Int.toNat_natCast]
    obtain ⟨E, eE⟩ : ∃ E, (if allB (fun k => fitU W (g k)) n then (0 : Int) else 3) = E := ⟨_, rfl⟩
    rw [eE]
    have HE := Lib.hid eE
    have H1 := Lib.hid h1; have H8 := Lib.hid h8
    have kB := HB0.out.at 0 _ rfl
    rw [Nat.add_zero] at kB
    have KB := Lib.hid kB
    clear hbad EE h1 h8 kB eE
    go_enter Tryd.func78, Tryd.ntmps78
    go_wp2_with (fail)
    go_loopw [24] (fun iv wr => ∃ (k : Nat), k ≤ n ∧ iv = .int .i64 k ∧ Hid (∀ j, j < k → fitU W (g j) = true) ∧ w = wr) (fun iv _ => (n - (intOf iv).toNat))
    case atStart => exact ⟨0, Nat.zero_le _, rfl, Lib.hid (fun j hj => absurd hj (Nat.not_lt_zero j)), rfl⟩
    case round =>
      obtain ⟨k, hk, rfl, ALL, rfl⟩ := hrel
      by_cases hlt : k < n
      · obtain ⟨D, o, rfl, hD, hcell⟩ := HP.out.at hlt
        have hki : (k : Int) < (n : Int) := by omega
        have k0 : (0 : Int) ≤ (k : Int) := by omega
        have wk : IntKind.i64.wrap ((k : Int) + 1) = (k : Int) + 1 := IntWalk.i64_in _ (by have := HNC.out; have := HC2.out; omega)
        have FT := Lib.hid (FitU_any W (g k) B H1.out H8.out (HG.out k hlt).1 (by have := (HG.out k hlt).2; omega) w KB.out)
        have HLT := Lib.hid hlt
        obtain ⟨x, ex⟩ : ∃ x, g k = x := ⟨_, rfl⟩
        rw [ex] at hcell FT
        have EX := Lib.hid ex
        clear hlt hk ex
        go_wp2_with (fail)
        go_at_call 79
        refine (FT.out).mono ?_
        rintro e w1 ⟨rfl, hw⟩
        obtain rfl : w = w1 := hw.symm
        cases hft : fitU W x with
        | false =>
          have A0 : allB (fun k => fitU W (g k)) n = false := allB_not HLT.out (by rw [EX.out]; exact hft)
          obtain rfl : E = 3 := (by rw [← HE.out, A0]; rfl)
          clear A0 HE
          go_wp2_with (fail)
          exact bodyPost_ret (v := .tuple #[.slice none 0 0, .int .i64 3]) (by simp [results, Tryd.results78, go_sem]) rfl ⟨_, rfl, World.ownsRow_nil _ _ _ _, Below.refl _ _⟩
        | true =>
          have ALL2 : Hid (∀ j, j < k + 1 → fitU W (g j) = true) := Lib.hid fun j hj => (Nat.lt_succ_iff_lt_or_eq.1 hj).elim (ALL.out j) (fun e => by rw [e, EX.out]; exact hft)
          go_wp2_with (fail)
          go_roundw
          case rel => (first | exact ⟨k + 1, HLT.out, by go_num, ALL2, (by first | rfl | trivial)⟩ | ((repeat apply Exists.intro); exact ⟨⟨k + 1, HLT.out, by go_num, ALL2, (by first | rfl | trivial)⟩, rfl⟩))
          case measure => (have := HLT.out; simp [intOf]; omega)
      · obtain rfl : k = n := by omega
        have A1 : allB (fun j => fitU W (g j)) k = true := allB_iff.2 ALL.out
        obtain rfl : E = 0 := (by rw [← HE.out, A1]; rfl)
        have PL : putL m k (W : Int) 0 = m + W * k := by simp [putL]
        obtain ⟨P, eP⟩ : ∃ P, W * k = P := ⟨_, rfl⟩
        obtain ⟨Q, eQ⟩ : ∃ Q, m + P = Q := ⟨_, rfl⟩
        have P8 : P ≤ 8 * k := by rw [← eP]; exact Nat.mul_le_mul_right _ H8.out
        have w1 : IntKind.i64.wrap ((W : Int) * (k : Int)) = (P : Int) := by rw [show (W : Int) * (k : Int) = ((W * k : Nat) : Int) by push_cast; rfl, eP]; exact IntWalk.i64_in _ (by have := HSZ.out; omega)
        have w2 : IntKind.i64.wrap ((m : Int) + (P : Int)) = (Q : Int) := by rw [IntWalk.i64_in _ (by have := HSZ.out; omega)]; omega
        have q0 : (0 : Int) ≤ (Q : Int) := by omega
        have Q7 : Q ≤ 70368744177664 := by have := HSZ.out; omega
        obtain ⟨W1, hmk, hrow, hgr⟩ := run_make_own (P := Tryd.prog) w w.heap.size 48 5 i0 (.int .u8 0) 1 Tryd.underlying48 hi hz0 hz1 .i64 .i64 Q (by rw [hz2]; omega) (by unfold maxLen; omega) (Nat.le_refl _)
        have hB1 : Below w.heap.size w W1 := (Below.refl _ _).grown hgr (Nat.le_refl _) (fun k hk => nomatch hk)
        have HB1 := Lib.hid hB1
        have ROW1 := Lib.hid hrow
        have BY1 := Lib.hid (HQ.out.later hB1)
        have QP := Lib.hid (show m + W * k = Q by rw [eP]; exact eQ)
        have QB := Lib.hid Q7
        have HM0 := Lib.hid (show 0 + m ≤ 140737488355328 by omega)
        clear hrow hgr hB1 hlt hk eP eQ P8 Q7
        go_wp2_with (at_builtin; refine wpList_append_b rfl _ _ rfl w.heap.size _ 0 [] rfl ROW1.out q m c f rfl BY1.out HM0.out HB1.out.size ?_; intro v' w6 hrow hgr; obtain ⟨p', c', rfl, _⟩ := row_form hrow; have o4 := Lib.hid (HB1.out.grown hgr HB1.out.size fun q hq => row_ge ROW1.out q hq); have o6 := Lib.hid hrow; clear hrow hgr)
        have hrow0 : w6.ownsRow w.heap.size 5 1 (.slice p' m c') m (nums .u8 (outF f m W g) m) := by
          have := o6.out
          rw [Nat.zero_add, List.nil_append, nums_congr .u8 (fun j hj => (outF_head f m W g hj).symm)] at this
          exact this
        have ROW0 := Lib.hid hrow0
        have PLH := Lib.hid PL
        clear hrow0 o6 ROW1 BY1 HB1 A1 PL HE
        go_wp2_with (fail)
        go_loopw [12, 45] (fun v iv wq => ∃ (l t : Nat) (p3 : Option Addr) (c3 : Nat), l ≤ k ∧ Hid (t = m + W * l) ∧ v = .slice p3 t c3 ∧ iv = .int .i64 l ∧ Hid (wq.ownsRow w.heap.size 5 1 (.slice p3 t c3) t (nums .u8 (outF f m W g) t)) ∧ Hid (Below w.heap.size w wq)) (fun _ iv _ => (k - (intOf iv).toNat))
        case atStart => exact ⟨0, m, p', c', Nat.zero_le _, Lib.hid rfl, rfl, rfl, ROW0, o4⟩
        case round =>
          clear ROW0 o4
          obtain ⟨l, t, p3, c3, hl, HT, rfl, rfl, ROW, HB⟩ := hrel
          by_cases hlt : l < k
          · obtain ⟨D, o, rfl, hD, hcell⟩ := (HP.out.later HB.out).at hlt
            have hki : (l : Int) < (k : Int) := by omega
            have k0 : (0 : Int) ≤ (l : Int) := by omega
            have wk : IntKind.i64.wrap ((l : Int) + 1) = (l : Int) + 1 := IntWalk.i64_in _ (by have := HNC.out; have := HC2.out; omega)
            obtain ⟨x, ex⟩ : ∃ x, g l = x := ⟨_, rfl⟩
            rw [ex] at hcell
            have EX := Lib.hid ex
            have TB : Hid (t + W ≤ 70368744177664) := Lib.hid (by
              have a1 : W * (l + 1) ≤ W * k := Nat.mul_le_mul_left _ (by omega)
              have a2 := QP.out; have a3 := QB.out; have a4 := HT.out
              rw [Nat.mul_succ] at a1
              omega)
            have HLT := Lib.hid hlt
            clear hl hlt ex
            go_wp2_with (fail)
            go_loopw [12, 50] (fun v jv wq => ∃ (j : Nat) (p3 : Option Addr) (c3 : Nat), j ≤ W ∧ v = .slice p3 (t + j) c3 ∧ jv = .int .i64 j ∧ Hid (wq.ownsRow w.heap.size 5 1 (.slice p3 (t + j) c3) (t + j) (nums .u8 (outF f m W g) (t + j))) ∧ Hid (Below w.heap.size w wq)) (fun _ iv _ => (W - (intOf iv).toNat))
            case atStart => exact ⟨0, p3, c3, Nat.zero_le _, by rw [Nat.add_zero], rfl, Lib.hid (by rw [Nat.add_zero]; exact ROW.out), HB⟩
            case round =>
              clear ROW HB hcell hD
              obtain ⟨j, p4, c4, hj, rfl, rfl, ROW, HB⟩ := hrel
              by_cases hjt : j < W
              · have hji : (j : Int) < (W : Int) := by omega
                have j0 : (0 : Int) ≤ (j : Int) := by omega
                have wj : IntKind.i64.wrap ((j : Int) + 1) = (j : Int) + 1 := IntWalk.i64_in _ (by have := H8.out; omega)
                have wj8 : IntKind.i64.wrap (8 * (j : Int)) = ((8 * j : Nat) : Int) := by rw [IntWalk.i64_in _ (by have := H8.out; omega)]; omega
                obtain ⟨z, ez⟩ : ∃ z : Int, x / 2 ^ (8 * j) % 256 = z := ⟨_, rfl⟩
                have XS : Hid (nums .u8 (outF f m W g) (t + j) ++ [.int .u8 z] = nums .u8 (outF f m W g) (t + (j + 1))) := Lib.hid (nums_append .u8 (outF f m W g) (fun _ => z) (t + j) 1 (fun i hi => by
                  obtain rfl : i = 0 := by omega
                  rw [Nat.add_zero, HT.out, outF_dg f m W g l j hjt, EX.out, dg, pw_two]
                  exact ez))
                have N63 := Lib.hid (show (t + j) + 1 ≤ maxLen by have := TB.out; unfold maxLen; omega)
                have NBY := Lib.hid (show ((t + j) + 1) * 1 ≤ 140737488355328 by have := TB.out; omega)
                have HS2 : Hid (w.heap.size ≤ (wr.alloc (.cells #[.int .u8 z] 5)).heap.size) := Lib.hid (Below.al HB.out).size
                have HJ := Lib.hid hjt
                clear hj hjt
                go_wp2_with (at_builtin; refine wpList_append_own _ rfl _ _ 48 rfl w.heap.size 5 i0 (.int .u8 0) 1 1 Tryd.underlying48 hi hz0 hz1 hz2 rfl (by decide) _ ((t + j)) _ rfl (row_later ROW.out (Below.al (Below.refl _ _))) ⟨wr.heap.size, 0, none⟩ 1 1 [.int .u8 z] rfl rfl (Own.newAt (by rfl)).news (by intro v hv; cases hv with | head => rfl | tail _ h => nomatch h) N63.out NBY.out HS2.out ?_; intro v' w6 hrow hgr _; obtain ⟨p', c', rfl, _⟩ := row_form hrow; rw [XS.out] at hrow; have o4 := Lib.hid ((Below.al HB.out).grown hgr (Below.al HB.out).size fun q hq => row_ge ROW.out q hq); have o6 := Lib.hid hrow; clear hrow hgr)
                go_roundw
                case rel => (first | exact ⟨j + 1, _, _, HJ.out, rfl, by go_num, o6, o4⟩ | ((repeat apply Exists.intro); exact ⟨⟨j + 1, _, _, HJ.out, rfl, by go_num, o6, o4⟩, rfl⟩))
                case measure => (have := HJ.out; simp [intOf]; omega)
              · obtain rfl : j = W := by omega
                have HT2 : Hid (t + j = m + j * (l + 1)) := Lib.hid (by rw [HT.out, Nat.mul_succ, Nat.add_assoc])
                go_wp2_with (fail)
                go_roundw
                case rel => (first | exact ⟨l + 1, t + j, _, _, HLT.out, HT2, rfl, by go_num, ROW, HB⟩ | ((repeat apply Exists.intro); exact ⟨⟨l + 1, t + j, _, _, HLT.out, HT2, rfl, by go_num, ROW, HB⟩, rfl⟩))
                case measure => (have := HLT.out; simp [intOf]; omega)
          · obtain rfl : l = k := by omega
            have TT : t = putL m l (W : Int) 0 := by rw [PLH.out]; exact HT.out
            go_wp2_with (fail)
            refine bodyPost_ret (v := .tuple #[.slice p3 t c3, .int .i64 0]) (by simp [results, Tryd.results78, go_sem]) rfl ⟨_, rfl, ?_, HB.out⟩
            rw [← TT]
            exact ROW.out

set_option maxHeartbeats 8000000 in
theorem PutS_any (q p : Option Addr) (m c n c2 : Nat) (wd : Int) (f g : Nat → Int) (B : Nat) (hg : ∀ k, k < n → -9223372036854775808 ≤ g k ∧ g k ≤ 9223372036854775807) (hmc : m ≤ c) (hc : c ≤ 9223372036854775807) (hnc : n ≤ c2) (hc2 : c2 ≤ 9223372036854775807) (hsz : m + 8 * n ≤ 70368744177664) (w : World) (hB : Has B 0 [.int .i64 wd] w) (hq : Byt w q m f) (hp : Nm w .i64 p n g) :
    Calls Tryd.prog 80 #[.slice q m c, .int .i64 wd, .slice p n c2, .func (.func 81) #[] #[.pointer (some ⟨B, 0, none⟩)]] w fun e w' => ∃ v, e = .returned (.tuple #[v, .int .i64 (putE fitS wd n g)]) ∧ w'.ownsRow w.heap.size 5 1 v (putL m n wd (putE fitS wd n g)) (nums .u8 (outF f m wd.toNat g) (putL m n wd (putE fitS wd n g))) ∧ Below w.heap.size w w' := by
  have HG := Lib.hid hg; have HMC := Lib.hid hmc; have HC := Lib.hid hc; have HNC := Lib.hid hnc; have HC2 := Lib.hid hc2; have HSZ := Lib.hid hsz; have HQ := Lib.hid hq; have HP := Lib.hid hp; have HB0 := Lib.hid hB
  clear hg hmc hc hnc hc2 hsz hq hp hB
  obtain ⟨i0, hi, hz0, hz1, hz2⟩ := infoB_parts
  by_cases hbad : wd < 1 ∨ 8 < wd
  · have E : putE fitS wd n g = 2 := by unfold putE badW; rw [if_pos (by simpa using hbad)]
    have L0 : putL m n wd 2 = 0 := rfl
    rw [E, L0]
    by_cases h1 : wd < 1
    · clear hbad E
      go_enter Tryd.func80, Tryd.ntmps80
      go_wp2_with (fail)
      exact bodyPost_ret (v := .tuple #[.slice none 0 0, .int .i64 2]) (by simp [results, Tryd.results80, go_sem]) rfl ⟨_, rfl, World.ownsRow_nil _ _ _ _, Below.refl _ _⟩
    · have h8 : 8 < wd := by omega
      clear hbad E
      go_enter Tryd.func80, Tryd.ntmps80
      go_wp2_with (fail)
      exact bodyPost_ret (v := .tuple #[.slice none 0 0, .int .i64 2]) (by simp [results, Tryd.results80, go_sem]) rfl ⟨_, rfl, World.ownsRow_nil _ _ _ _, Below.refl _ _⟩
  · obtain ⟨W, rfl⟩ : ∃ W : Nat, wd = (W : Int) := ⟨wd.toNat, by omega⟩
    have h1 : 1 ≤ W := by omega
    have h8 : W ≤ 8 := by omega
    have g1 : ¬((W : Int) < 1) := by omega
    have g8 : ¬(8 < (W : Int)) := by omega
    have EE : putE fitS (W : Int) n g = if allB (fun k => fitS W (g k)) n then 0 else 3 := by unfold putE badW; rw [if_neg (by simpa using hbad), Int.toNat_natCast]
    rw [EE, Int.toNat_natCast]
    obtain ⟨E, eE⟩ : ∃ E, (if allB (fun k => fitS W (g k)) n then (0 : Int) else 3) = E := ⟨_, rfl⟩
    rw [eE]
    have HE := Lib.hid eE
    have H1 := Lib.hid h1; have H8 := Lib.hid h8
    have kB := HB0.out.at 0 _ rfl
    rw [Nat.add_zero] at kB
    have KB := Lib.hid kB
    clear hbad EE h1 h8 kB eE
    go_enter Tryd.func80, Tryd.ntmps80
    go_wp2_with (fail)
    go_loopw [24] (fun iv wr => ∃ (k : Nat), k ≤ n ∧ iv = .int .i64 k ∧ Hid (∀ j, j < k → fitS W (g j) = true) ∧ w = wr) (fun iv _ => (n - (intOf iv).toNat))
    case atStart => exact ⟨0, Nat.zero_le _, rfl, Lib.hid (fun j hj => absurd hj (Nat.not_lt_zero j)), rfl⟩
    case round =>
      obtain ⟨k, hk, rfl, ALL, rfl⟩ := hrel
      by_cases hlt : k < n
      · obtain ⟨D, o, rfl, hD, hcell⟩ := HP.out.at hlt
        have hki : (k : Int) < (n : Int) := by omega
        have k0 : (0 : Int) ≤ (k : Int) := by omega
        have wk : IntKind.i64.wrap ((k : Int) + 1) = (k : Int) + 1 := IntWalk.i64_in _ (by have := HNC.out; have := HC2.out; omega)
        have FT := Lib.hid (FitS_any W (g k) B H1.out H8.out (HG.out k hlt).1 (by have := (HG.out k hlt).2; omega) w KB.out)
        have HLT := Lib.hid hlt
        obtain ⟨x, ex⟩ : ∃ x, g k = x := ⟨_, rfl⟩
        rw [ex] at hcell FT
        have EX := Lib.hid ex
        clear hlt hk ex
        go_wp2_with (fail)
        go_at_call 81
        refine (FT.out).mono ?_
        rintro e w1 ⟨rfl, hw⟩
        obtain rfl : w = w1 := hw.symm
        cases hft : fitS W x with
        | false =>
          have A0 : allB (fun k => fitS W (g k)) n = false := allB_not HLT.out (by rw [EX.out]; exact hft)
          obtain rfl : E = 3 := (by rw [← HE.out, A0]; rfl)
          clear A0 HE
          go_wp2_with (fail)
          exact bodyPost_ret (v := .tuple #[.slice none 0 0, .int .i64 3]) (by simp [results, Tryd.results80, go_sem]) rfl ⟨_, rfl, World.ownsRow_nil _ _ _ _, Below.refl _ _⟩
        | true =>
          have ALL2 : Hid (∀ j, j < k + 1 → fitS W (g j) = true) := Lib.hid fun j hj => (Nat.lt_succ_iff_lt_or_eq.1 hj).elim (ALL.out j) (fun e => by rw [e, EX.out]; exact hft)
          go_wp2_with (fail)
          go_roundw
          case rel => (first | exact ⟨k + 1, HLT.out, by go_num, ALL2, (by first | rfl | trivial)⟩ | ((repeat apply Exists.intro); exact ⟨⟨k + 1, HLT.out, by go_num, ALL2, (by first | rfl | trivial)⟩, rfl⟩))
          case measure => (have := HLT.out; simp [intOf]; omega)
      · obtain rfl : k = n := by omega
        have A1 : allB (fun j => fitS W (g j)) k = true := allB_iff.2 ALL.out
        obtain rfl : E = 0 := (by rw [← HE.out, A1]; rfl)
        have PL : putL m k (W : Int) 0 = m + W * k := by simp [putL]
        obtain ⟨P, eP⟩ : ∃ P, W * k = P := ⟨_, rfl⟩
        obtain ⟨Q, eQ⟩ : ∃ Q, m + P = Q := ⟨_, rfl⟩
        have P8 : P ≤ 8 * k := by rw [← eP]; exact Nat.mul_le_mul_right _ H8.out
        have w1 : IntKind.i64.wrap ((W : Int) * (k : Int)) = (P : Int) := by rw [show (W : Int) * (k : Int) = ((W * k : Nat) : Int) by push_cast; rfl, eP]; exact IntWalk.i64_in _ (by have := HSZ.out; omega)
        have w2 : IntKind.i64.wrap ((m : Int) + (P : Int)) = (Q : Int) := by rw [IntWalk.i64_in _ (by have := HSZ.out; omega)]; omega
        have q0 : (0 : Int) ≤ (Q : Int) := by omega
        have Q7 : Q ≤ 70368744177664 := by have := HSZ.out; omega
        obtain ⟨W1, hmk, hrow, hgr⟩ := run_make_own (P := Tryd.prog) w w.heap.size 48 5 i0 (.int .u8 0) 1 Tryd.underlying48 hi hz0 hz1 .i64 .i64 Q (by rw [hz2]; omega) (by unfold maxLen; omega) (Nat.le_refl _)
        have hB1 : Below w.heap.size w W1 := (Below.refl _ _).grown hgr (Nat.le_refl _) (fun k hk => nomatch hk)
        have HB1 := Lib.hid hB1
        have ROW1 := Lib.hid hrow
        have BY1 := Lib.hid (HQ.out.later hB1)
        have QP := Lib.hid (show m + W * k = Q by rw [eP]; exact eQ)
        have QB := Lib.hid Q7
        have HM0 := Lib.hid (show 0 + m ≤ 140737488355328 by omega)
        clear hrow hgr hB1 hlt hk eP eQ P8 Q7
        go_wp2_with (at_builtin; refine wpList_append_b rfl _ _ rfl w.heap.size _ 0 [] rfl ROW1.out q m c f rfl BY1.out HM0.out HB1.out.size ?_; intro v' w6 hrow hgr; obtain ⟨p', c', rfl, _⟩ := row_form hrow; have o4 := Lib.hid (HB1.out.grown hgr HB1.out.size fun q hq => row_ge ROW1.out q hq); have o6 := Lib.hid hrow; clear hrow hgr)
        have hrow0 : w6.ownsRow w.heap.size 5 1 (.slice p' m c') m (nums .u8 (outF f m W g) m) := by
          have := o6.out
          rw [Nat.zero_add, List.nil_append, nums_congr .u8 (fun j hj => (outF_head f m W g hj).symm)] at this
          exact this
        have ROW0 := Lib.hid hrow0
        have PLH := Lib.hid PL
        clear hrow0 o6 ROW1 BY1 HB1 A1 PL HE
        go_wp2_with (fail)
        go_loopw [12, 45] (fun v iv wq => ∃ (l t : Nat) (p3 : Option Addr) (c3 : Nat), l ≤ k ∧ Hid (t = m + W * l) ∧ v = .slice p3 t c3 ∧ iv = .int .i64 l ∧ Hid (wq.ownsRow w.heap.size 5 1 (.slice p3 t c3) t (nums .u8 (outF f m W g) t)) ∧ Hid (Below w.heap.size w wq)) (fun _ iv _ => (k - (intOf iv).toNat))
        case atStart => exact ⟨0, m, p', c', Nat.zero_le _, Lib.hid rfl, rfl, rfl, ROW0, o4⟩
        case round =>
          clear ROW0 o4
          obtain ⟨l, t, p3, c3, hl, HT, rfl, rfl, ROW, HB⟩ := hrel
          by_cases hlt : l < k
          · obtain ⟨D, o, rfl, hD, hcell⟩ := (HP.out.later HB.out).at hlt
            have hki : (l : Int) < (k : Int) := by omega
            have k0 : (0 : Int) ≤ (l : Int) := by omega
            have wk : IntKind.i64.wrap ((l : Int) + 1) = (l : Int) + 1 := IntWalk.i64_in _ (by have := HNC.out; have := HC2.out; omega)
            obtain ⟨x, ex⟩ : ∃ x, g l = x := ⟨_, rfl⟩
            rw [ex] at hcell
            have EX := Lib.hid ex
            have TB : Hid (t + W ≤ 70368744177664) := Lib.hid (by
              have a1 : W * (l + 1) ≤ W * k := Nat.mul_le_mul_left _ (by omega)
              have a2 := QP.out; have a3 := QB.out; have a4 := HT.out
              rw [Nat.mul_succ] at a1
              omega)
            have HLT := Lib.hid hlt
            clear hl hlt ex
            go_wp2_with (fail)
            go_loopw [12, 50] (fun v jv wq => ∃ (j : Nat) (p3 : Option Addr) (c3 : Nat), j ≤ W ∧ v = .slice p3 (t + j) c3 ∧ jv = .int .i64 j ∧ Hid (wq.ownsRow w.heap.size 5 1 (.slice p3 (t + j) c3) (t + j) (nums .u8 (outF f m W g) (t + j))) ∧ Hid (Below w.heap.size w wq)) (fun _ iv _ => (W - (intOf iv).toNat))
            case atStart => exact ⟨0, p3, c3, Nat.zero_le _, by rw [Nat.add_zero], rfl, Lib.hid (by rw [Nat.add_zero]; exact ROW.out), HB⟩
            case round =>
              clear ROW HB hcell hD
              obtain ⟨j, p4, c4, hj, rfl, rfl, ROW, HB⟩ := hrel
              by_cases hjt : j < W
              · have hji : (j : Int) < (W : Int) := by omega
                have j0 : (0 : Int) ≤ (j : Int) := by omega
                have wj : IntKind.i64.wrap ((j : Int) + 1) = (j : Int) + 1 := IntWalk.i64_in _ (by have := H8.out; omega)
                have wj8 : IntKind.i64.wrap (8 * (j : Int)) = ((8 * j : Nat) : Int) := by rw [IntWalk.i64_in _ (by have := H8.out; omega)]; omega
                obtain ⟨z, ez⟩ : ∃ z : Int, x / 2 ^ (8 * j) % 256 = z := ⟨_, rfl⟩
                have XS : Hid (nums .u8 (outF f m W g) (t + j) ++ [.int .u8 z] = nums .u8 (outF f m W g) (t + (j + 1))) := Lib.hid (nums_append .u8 (outF f m W g) (fun _ => z) (t + j) 1 (fun i hi => by
                  obtain rfl : i = 0 := by omega
                  rw [Nat.add_zero, HT.out, outF_dg f m W g l j hjt, EX.out, dg, pw_two]
                  exact ez))
                have N63 := Lib.hid (show (t + j) + 1 ≤ maxLen by have := TB.out; unfold maxLen; omega)
                have NBY := Lib.hid (show ((t + j) + 1) * 1 ≤ 140737488355328 by have := TB.out; omega)
                have HS2 : Hid (w.heap.size ≤ (wr.alloc (.cells #[.int .u8 z] 5)).heap.size) := Lib.hid (Below.al HB.out).size
                have HJ := Lib.hid hjt
                clear hj hjt
                go_wp2_with (at_builtin; refine wpList_append_own _ rfl _ _ 48 rfl w.heap.size 5 i0 (.int .u8 0) 1 1 Tryd.underlying48 hi hz0 hz1 hz2 rfl (by decide) _ ((t + j)) _ rfl (row_later ROW.out (Below.al (Below.refl _ _))) ⟨wr.heap.size, 0, none⟩ 1 1 [.int .u8 z] rfl rfl (Own.newAt (by rfl)).news (by intro v hv; cases hv with | head => rfl | tail _ h => nomatch h) N63.out NBY.out HS2.out ?_; intro v' w6 hrow hgr _; obtain ⟨p', c', rfl, _⟩ := row_form hrow; rw [XS.out] at hrow; have o4 := Lib.hid ((Below.al HB.out).grown hgr (Below.al HB.out).size fun q hq => row_ge ROW.out q hq); have o6 := Lib.hid hrow; clear hrow hgr)
                go_roundw
                case rel => (first | exact ⟨j + 1, _, _, HJ.out, rfl, by go_num, o6, o4⟩ | ((repeat apply Exists.intro); exact ⟨⟨j + 1, _, _, HJ.out, rfl, by go_num, o6, o4⟩, rfl⟩))
                case measure => (have := HJ.out; simp [intOf]; omega)
              · obtain rfl : j = W := by omega
                have HT2 : Hid (t + j = m + j * (l + 1)) := Lib.hid (by rw [HT.out, Nat.mul_succ, Nat.add_assoc])
                go_wp2_with (fail)
                go_roundw
                case rel => (first | exact ⟨l + 1, t + j, _, _, HLT.out, HT2, rfl, by go_num, ROW, HB⟩ | ((repeat apply Exists.intro); exact ⟨⟨l + 1, t + j, _, _, HLT.out, HT2, rfl, by go_num, ROW, HB⟩, rfl⟩))
                case measure => (have := HLT.out; simp [intOf]; omega)
          · obtain rfl : l = k := by omega
            have TT : t = putL m l (W : Int) 0 := by rw [PLH.out]; exact HT.out
            go_wp2_with (fail)
            refine bodyPost_ret (v := .tuple #[.slice p3 t c3, .int .i64 0]) (by simp [results, Tryd.results80, go_sem]) rfl ⟨_, rfl, ?_, HB.out⟩
            rw [← TT]
            exact ROW.out
end Go.Proofs.YtokfhhngnpbdkaaDoor

/- DD -/
namespace Go.Proofs.YtokfhhngnpbdkaaDoor
set_option linter.unusedVariables false
set_option maxRecDepth 2000
set_option linter.unusedSimpArgs false
open Go.RowKit
theorem row_base {w : World} {base b2 size n : Nat} {e : TypeId} {v : Value} {xs : List Value} (h : w.ownsRow base e size v n xs) (hb : b2 ≤ base) : w.ownsRow b2 e size v n xs := by
  refine ⟨h.1, ?_⟩
  rcases h.2 with h0 | ⟨g, cap, cur, hv, hg, r⟩
  · exact .inl h0
  · exact .inr ⟨g, cap, cur, hv, Nat.le_trans hb hg, r⟩

set_option maxHeartbeats 4000000 in
theorem Put_any (q p : Option Addr) (m c n c2 : Nat) (wd : Int) (f g : Nat → Int) (hg : ∀ k, k < n → 0 ≤ g k ∧ g k ≤ 18446744073709551615) (hmc : m ≤ c) (hc : c ≤ 9223372036854775807) (hnc : n ≤ c2) (hc2 : c2 ≤ 9223372036854775807) (hsz : m + 8 * n ≤ 70368744177664) (w : World) (hq : Byt w q m f) (hp : Nm w .u64 p n g) :
    Calls Tryd.prog 65 #[.slice q m c, .int .i64 wd, .slice p n c2] w fun e w' => ∃ v, e = .returned (.tuple #[v, .int .i64 (putE fitU wd n g)]) ∧ w'.ownsRow w.heap.size 5 1 v (putL m n wd (putE fitU wd n g)) (nums .u8 (outF f m wd.toNat g) (putL m n wd (putE fitU wd n g))) ∧ Below w.heap.size w w' := by
  have PU := Lib.hid (fun B w hB hq hp => PutU_any q p m c n c2 wd f g B hg hmc hc hnc hc2 hsz w hB hq hp)
  have HQ := Lib.hid hq; have HP := Lib.hid hp
  clear hg hmc hc hnc hc2 hsz hq hp
  have hmf : ∀ (fn : Fn) (first cap : Array Value) (w : World), (Instr.makeFunc fn first cap).run Tryd.prog w = .ok (.func fn first cap) w := fun _ _ _ _ => rfl
  generalize putE fitU wd n g = E at *
  generalize putL m n wd E = L at *
  go_enter Tryd.func65, Tryd.ntmps65
  go_wp2_with (fail)
  go_at_call 78
  have hA : Below w.heap.size w (w.alloc (.cells #[.int .i64 wd] 3)) := Below.al (Below.refl _ _)
  refine (PU.out w.heap.size _ ((Own.newAt rfl : Own w.heap.size #[.int .i64 wd].toList (w.alloc (.cells #[.int .i64 wd] 3))).has) (HQ.out.later hA) (HP.out.later hA)).mono ?_
  rintro e w1 ⟨v, rfl, hrow, hb⟩
  have hB := Below.go hA hb
  have ROW := Lib.hid hrow
  have HB := Lib.hid hB
  clear hrow hb hB hA PU
  go_wp2_with (fail)
  exact bodyPost_ret (v := .tuple #[v, .int .i64 E]) (by simp [results, Tryd.results65, go_sem]) rfl ⟨v, rfl, row_base ROW.out (by simp), HB.out⟩

set_option maxHeartbeats 4000000 in
theorem Signed_any (q p : Option Addr) (m c n c2 : Nat) (wd : Int) (f g : Nat → Int) (hg : ∀ k, k < n → -9223372036854775808 ≤ g k ∧ g k ≤ 9223372036854775807) (hmc : m ≤ c) (hc : c ≤ 9223372036854775807) (hnc : n ≤ c2) (hc2 : c2 ≤ 9223372036854775807) (hsz : m + 8 * n ≤ 70368744177664) (w : World) (hq : Byt w q m f) (hp : Nm w .i64 p n g) :
    Calls Tryd.prog 66 #[.slice q m c, .int .i64 wd, .slice p n c2] w fun e w' => ∃ v, e = .returned (.tuple #[v, .int .i64 (putE fitS wd n g)]) ∧ w'.ownsRow w.heap.size 5 1 v (putL m n wd (putE fitS wd n g)) (nums .u8 (outF f m wd.toNat g) (putL m n wd (putE fitS wd n g))) ∧ Below w.heap.size w w' := by
  have PU := Lib.hid (fun B w hB hq hp => PutS_any q p m c n c2 wd f g B hg hmc hc hnc hc2 hsz w hB hq hp)
  have HQ := Lib.hid hq; have HP := Lib.hid hp
  clear hg hmc hc hnc hc2 hsz hq hp
  have hmf : ∀ (fn : Fn) (first cap : Array Value) (w : World), (Instr.makeFunc fn first cap).run Tryd.prog w = .ok (.func fn first cap) w := fun _ _ _ _ => rfl
  generalize putE fitS wd n g = E at *
  generalize putL m n wd E = L at *
  go_enter Tryd.func66, Tryd.ntmps66
  go_wp2_with (fail)
  go_at_call 80
  have hA : Below w.heap.size w (w.alloc (.cells #[.int .i64 wd] 3)) := Below.al (Below.refl _ _)
  refine (PU.out w.heap.size _ ((Own.newAt rfl : Own w.heap.size #[.int .i64 wd].toList (w.alloc (.cells #[.int .i64 wd] 3))).has) (HQ.out.later hA) (HP.out.later hA)).mono ?_
  rintro e w1 ⟨v, rfl, hrow, hb⟩
  have hB := Below.go hA hb
  have ROW := Lib.hid hrow
  have HB := Lib.hid hB
  clear hrow hb hB hA PU
  go_wp2_with (fail)
  exact bodyPost_ret (v := .tuple #[v, .int .i64 E]) (by simp [results, Tryd.results66, go_sem]) rfl ⟨v, rfl, row_base ROW.out (by simp), HB.out⟩
end Go.Proofs.YtokfhhngnpbdkaaDoor

/- DG -/
namespace Go.Proofs.YtokfhhngnpbdkaaDoor
set_option linter.unusedVariables false
set_option maxRecDepth 2000
set_option linter.unusedSimpArgs false
open Go.RowKit
theorem byt_eq {w : World} {q : Option Addr} {n : Nat} {f g : Nat → Int} (h : Byt w q n f) (e : ∀ j, j < n → f j = g j) : Byt w q n g := by
  rcases h with h | ⟨b, off, h1, h2⟩
  · exact .inl h
  · exact .inr ⟨b, off, h1, by rw [← nums_congr .u8 e]; exact h2⟩
theorem nm_new {w : World} {k : IntKind} {n : Nat} {f : Nat → Int} {T : TypeId} {cs : Array Value} (h : cs.toList = nums k f n) : Nm (w.alloc (.cells cs T)) k (some ⟨w.heap.size, 0, none⟩) n f :=
  .inr ⟨w.heap.size, 0, rfl, by rw [← h]; exact (Own.newAt rfl).has⟩
def exA (j : Nat) : Int := [(2 : Int), 1, 1, 0].getD j 0
def exN (j : Nat) : Int := [(258 : Int), 1].getD j 0

end Go.Proofs.YtokfhhngnpbdkaaDoor

/- DE -/
namespace Go.Proofs.YtokfhhngnpbdkaaDoor
set_option linter.unusedVariables false
set_option maxRecDepth 2000
set_option linter.unusedSimpArgs false
open Go.RowKit
attribute [local go_sem] nums_length

set_option maxHeartbeats 8000000 in
theorem RPut_any (q p : Option Addr) (m c n c2 : Nat) (wd : Int) (f g : Nat → Int) (hg : ∀ k, k < n → 0 ≤ g k ∧ g k ≤ 18446744073709551615) (hmc : m ≤ c) (hc : c ≤ 9223372036854775807) (hnc : n ≤ c2) (hc2 : c2 ≤ 9223372036854775807) (hsz : m + 8 * n ≤ 70368744177664) (w : World) (hq : Byt w q m f) (hp : Nm w .u64 p n g) :
    Calls Tryd.prog 50 #[.slice q m c, .int .i64 wd, .slice p n c2] w fun e w' => ∃ v, e = .returned (.tuple #[v, .int .i64 (putE fitU wd n g)]) ∧ w'.ownsRow w.heap.size 5 1 v (putL m n wd (putE fitU wd n g)) (nums .u8 (outF f m wd.toNat g) (putL m n wd (putE fitU wd n g))) ∧ Below w.heap.size w w' := by
  have HG := Lib.hid hg; have HMC := Lib.hid hmc; have HC := Lib.hid hc; have HNC := Lib.hid hnc; have HC2 := Lib.hid hc2; have HSZ := Lib.hid hsz; have HQ := Lib.hid hq; have HP := Lib.hid hp
  clear hg hmc hc hnc hc2 hsz hq hp
  obtain ⟨i0, hi, hz0, hz1, hz2⟩ := infoB_parts
  by_cases hbad : wd < 1 ∨ 8 < wd
  · have E : putE fitU wd n g = 2 := by unfold putE badW; rw [if_pos (by simpa using hbad)]
    have L0 : putL m n wd 2 = 0 := rfl
    rw [E, L0]
    by_cases h1 : wd < 1
    · clear hbad E
      go_enter Tryd.func50, Tryd.ntmps50
      go_wp2_with (fail)
      exact bodyPost_ret (v := .tuple #[.slice none 0 0, .int .i64 2]) (by simp [results, Tryd.results50, go_sem]) rfl ⟨_, rfl, World.ownsRow_nil _ _ _ _, Below.refl _ _⟩
    · have h8 : 8 < wd := by omega
      clear hbad E
      go_enter Tryd.func50, Tryd.ntmps50
      go_wp2_with (fail)
      exact bodyPost_ret (v := .tuple #[.slice none 0 0, .int .i64 2]) (by simp [results, Tryd.results50, go_sem]) rfl ⟨_, rfl, World.ownsRow_nil _ _ _ _, Below.refl _ _⟩
  · obtain ⟨W, rfl⟩ : ∃ W : Nat, wd = (W : Int) := ⟨wd.toNat, by omega⟩
    have h1 : 1 ≤ W := by omega
    have h8 : W ≤ 8 := by omega
    have g1 : ¬((W : Int) < 1) := by omega
    have g8 : ¬(8 < (W : Int)) := by omega
    have EE : putE fitU (W : Int) n g = if allB (fun k => fitU W (g k)) n then 0 else 3 := by unfold putE badW; rw [if_neg (by simpa using hbad), Int.toNat_natCast]
    rw [EE, Int.toNat_natCast]
    obtain ⟨E, eE⟩ : ∃ E, (if allB (fun k => fitU W (g k)) n then (0 : Int) else 3) = E := ⟨_, rfl⟩
    rw [eE]
    have HE := Lib.hid eE
    have H1 := Lib.hid h1; have H8 := Lib.hid h8
    obtain ⟨M, eM⟩ : ∃ M, pw W - 1 = M := ⟨_, rfl⟩
    have MO := Lib.hid (fun w => most_any W h8 w)
    rw [eM] at MO
    have EM := Lib.hid eM
    have HM0 := Lib.hid (show 0 + m ≤ 140737488355328 by have := HSZ.out; omega)
    clear hbad EE h1 h8 eE eM
    go_enter Tryd.func50, Tryd.ntmps50
    go_wp2_with (at_builtin; refine wpList_append_b rfl _ _ rfl w.heap.size _ 0 [] rfl (World.ownsRow_lit w #[] 0 (Nat.le_refl _) (by decide) rfl) q m c f rfl (HQ.out.later (Below.al (Below.refl _ _))) HM0.out (by simp) ?_; intro v' w6 hrow hgr; obtain ⟨p', c', rfl, _⟩ := row_form hrow; rw [Nat.zero_add, List.nil_append, nums_congr .u8 (fun j hj => (outF_head f m W g hj).symm)] at hrow; have o4 := Lib.hid ((Below.al (o := (.cells #[] 5)) (Below.refl w.heap.size w)).grown hgr (by simp) (fun q hq => by cases hq; exact Nat.le_refl _)); have o6 := Lib.hid hrow; clear hrow hgr)
    go_loopw [8, 9] (fun v iv wr => ∃ (k t : Nat) (p3 : Option Addr) (c3 : Nat), k ≤ n ∧ Hid (t = m + W * k) ∧ Hid (∀ j, j < k → fitU W (g j) = true) ∧ v = .slice p3 t c3 ∧ iv = .int .i64 k ∧ Hid (wr.ownsRow w.heap.size 5 1 (.slice p3 t c3) t (nums .u8 (outF f m W g) t)) ∧ Hid (Below w.heap.size w wr)) (fun _ iv _ => (n - (intOf iv).toNat))
    case atStart => exact ⟨0, m, p', c', Nat.zero_le _, Lib.hid rfl, Lib.hid (fun j hj => absurd hj (Nat.not_lt_zero j)), rfl, rfl, o6, o4⟩
    case round =>
      clear o6 o4
      obtain ⟨k, t, p3, c3, hk, HT, ALL, rfl, rfl, ROW, HB⟩ := hrel
      by_cases hlt : k < n
      · obtain ⟨D, o, rfl, hD, hcell⟩ := (HP.out.later HB.out).at hlt
        have hki : (k : Int) < (n : Int) := by omega
        have k0 : (0 : Int) ≤ (k : Int) := by omega
        have wk : IntKind.i64.wrap ((k : Int) + 1) = (k : Int) + 1 := IntWalk.i64_in _ (by have := HNC.out; have := HC2.out; omega)
        have XB := Lib.hid (HG.out k hlt)
        obtain ⟨x, ex⟩ : ∃ x, g k = x := ⟨_, rfl⟩
        rw [ex] at hcell XB
        have EX := Lib.hid ex
        have HLT := Lib.hid hlt
        clear hlt hk ex
        go_wp2_with (fail)
        go_quiet (first | (go_at_call 62; exact Calls.quiet_of_same (MO.out _)))
        obtain ⟨w3, e3⟩ : ∃ x, x = wr.drewN nq := ⟨_, rfl⟩
        have hBd : Below wr.heap.size wr w3 := e3 ▸ below_drewN (Below.refl _ _) _
        rw [← e3]
        have ROW3 := Lib.hid (row_later ROW.out hBd)
        have HB3 := Lib.hid (Below.go HB.out hBd)
        have hc3 : w3.cell? ⟨D, o + k, none⟩ = some (.int .u64 x) := (hBd.cell (p := ⟨D, o + k, none⟩) hD).trans hcell
        have hD3 : D < w3.heap.size := Nat.lt_of_lt_of_le hD hBd.size
        clear e3 hBd hcell hD HB ROW
        by_cases hft : M < x
        · have A0 : allB (fun k => fitU W (g k)) n = false := allB_not HLT.out (by rw [EX.out]; unfold fitU; have := EM.out; simp; omega)
          obtain rfl : E = 3 := (by rw [← HE.out, A0]; rfl)
          clear A0 HE
          go_wp2_with (fail)
          exact bodyPost_ret (v := .tuple #[.slice none 0 0, .int .i64 3]) (by simp [results, Tryd.results50, go_sem]) rfl ⟨_, rfl, World.ownsRow_nil _ _ _ _, HB3.out⟩
        · have ALL2 : Hid (∀ j, j < k + 1 → fitU W (g j) = true) := Lib.hid fun j hj => (Nat.lt_succ_iff_lt_or_eq.1 hj).elim (ALL.out j) (fun e => by rw [e, EX.out]; unfold fitU; have := EM.out; simp; omega)
          have TB : Hid (t + W ≤ 70368744177664) := Lib.hid (by
            have a1 : W * (k + 1) ≤ W * n := Nat.mul_le_mul_left _ HLT.out
            have a2 := HSZ.out; have a4 := HT.out
            have a5 : W * n ≤ 8 * n := Nat.mul_le_mul_right _ H8.out
            rw [Nat.mul_succ] at a1
            omega)
          have X0 : Hid (x = x / pw 0) := Lib.hid (by rw [pw_zero, Int.ediv_one])
          clear MO ALL
          go_wp2_with (fail)
          go_loopw [8, 10, 11] (fun v xv jv wr => ∃ (j : Nat) (y : Int) (p3 : Option Addr) (c3 : Nat), j ≤ W ∧ xv = .int .u64 y ∧ Hid (y = x / pw j) ∧ Hid (0 ≤ y ∧ y ≤ 18446744073709551615) ∧ v = .slice p3 (t + j) c3 ∧ jv = .int .i64 j ∧ Hid (wr.ownsRow w.heap.size 5 1 (.slice p3 (t + j) c3) (t + j) (nums .u8 (outF f m W g) (t + j))) ∧ Hid (Below w.heap.size w wr)) (fun _ _ iv _ => (W - (intOf iv).toNat))
          case atStart => exact ⟨0, x, p3, c3, Nat.zero_le _, rfl, X0, XB, by rw [Nat.add_zero], rfl, Lib.hid (by rw [Nat.add_zero]; exact ROW3.out), HB3⟩
          case round =>
            clear ROW3 HB3 hc3 hD3 X0
            obtain ⟨j, y, p4, c4, hj, rfl, HY, YB, rfl, rfl, ROW, HB⟩ := hrel
            by_cases hjt : j < W
            · have hji : (j : Int) < (W : Int) := by omega
              have j0 : (0 : Int) ≤ (j : Int) := by omega
              have wj : IntKind.i64.wrap ((j : Int) + 1) = (j : Int) + 1 := IntWalk.i64_in _ (by have := H8.out; omega)
              obtain ⟨z, ez⟩ : ∃ z : Int, y % 256 = z := ⟨_, rfl⟩
              obtain ⟨y2, ey⟩ : ∃ y2 : Int, y / 256 = y2 := ⟨_, rfl⟩
              have Y0 := YB.out.1
              have m1 : y.tmod 256 = z := by rw [Int.tmod_eq_emod_of_nonneg Y0]; exact ez
              have d1 : y.tdiv 256 = y2 := by rw [Int.tdiv_eq_ediv_of_nonneg Y0]; exact ey
              have z0 : 0 ≤ z ∧ z < 256 := by omega
              have wz : IntKind.u64.wrap z = z := IntWalk.u64_in _ (by omega)
              have wz8 : IntKind.u8.wrap z = z := IntWalk.u8_in _ (by omega)
              have zm : z % 256 = z := by omega
              have YB2 : Hid (0 ≤ y2 ∧ y2 ≤ 18446744073709551615) := Lib.hid (by have := YB.out; omega)
              have wy2 : IntKind.u64.wrap y2 = y2 := IntWalk.u64_in _ (by have := YB2.out; omega)
              have HY2 : Hid (y2 = x / pw (j + 1)) := Lib.hid (by rw [← ey, HY.out, dg_next])
              have XS : Hid (nums .u8 (outF f m W g) (t + j) ++ [.int .u8 z] = nums .u8 (outF f m W g) (t + (j + 1))) := Lib.hid (nums_append .u8 (outF f m W g) (fun _ => z) (t + j) 1 (fun i hi => by
                obtain rfl : i = 0 := by omega
                rw [Nat.add_zero, HT.out, outF_dg f m W g k j hjt, EX.out, dg, ← HY.out]
                exact ez))
              have N63 := Lib.hid (show (t + j) + 1 ≤ maxLen by have := TB.out; unfold maxLen; omega)
              have NBY := Lib.hid (show ((t + j) + 1) * 1 ≤ 140737488355328 by have := TB.out; omega)
              have HS2 : Hid (w.heap.size ≤ (wr.alloc (.cells #[.int .u8 z] 5)).heap.size) := Lib.hid (Below.al HB.out).size
              have HJ := Lib.hid hjt
              clear hj hjt ez ey z0 Y0
              go_wp2_with (at_builtin; refine wpList_append_own _ rfl _ _ 48 rfl w.heap.size 5 i0 (.int .u8 0) 1 1 Tryd.underlying48 hi hz0 hz1 hz2 rfl (by decide) _ ((t + j)) _ rfl (row_later ROW.out (Below.al (Below.refl _ _))) ⟨wr.heap.size, 0, none⟩ 1 1 [.int .u8 z] rfl rfl (Own.newAt (by rfl)).news (by intro v hv; cases hv with | head => rfl | tail _ h => nomatch h) N63.out NBY.out HS2.out ?_; intro v' w6 hrow hgr _; obtain ⟨p', c', rfl, _⟩ := row_form hrow; rw [XS.out] at hrow; have o4 := Lib.hid ((Below.al HB.out).grown hgr (Below.al HB.out).size fun q hq => row_ge ROW.out q hq); have o6 := Lib.hid hrow; clear hrow hgr)
              go_roundw
              case rel => (first | exact ⟨j + 1, y2, _, _, HJ.out, rfl, HY2, YB2, rfl, by go_num, o6, o4⟩ | ((repeat apply Exists.intro); exact ⟨⟨j + 1, y2, _, _, HJ.out, rfl, HY2, YB2, rfl, by go_num, o6, o4⟩, rfl⟩))
              case measure => (have := HJ.out; simp [intOf]; omega)
            · obtain rfl : j = W := by omega
              have HT2 : Hid (t + j = m + j * (k + 1)) := Lib.hid (by rw [HT.out, Nat.mul_succ, Nat.add_assoc])
              go_wp2_with (fail)
              go_roundw
              case rel => (first | exact ⟨k + 1, t + j, _, _, HLT.out, HT2, ALL2, rfl, by go_num, ROW, HB⟩ | ((repeat apply Exists.intro); exact ⟨⟨k + 1, t + j, _, _, HLT.out, HT2, ALL2, rfl, by go_num, ROW, HB⟩, rfl⟩))
              case measure => (have := HLT.out; simp [intOf]; omega)
      · obtain rfl : k = n := by omega
        have A1 : allB (fun j => fitU W (g j)) k = true := allB_iff.2 ALL.out
        obtain rfl : E = 0 := (by rw [← HE.out, A1]; rfl)
        have TT : t = putL m k (W : Int) 0 := by rw [HT.out]; simp [putL]
        clear A1 HE
        go_wp2_with (fail)
        refine bodyPost_ret (v := .tuple #[.slice p3 t c3, .int .i64 0]) (by simp [results, Tryd.results50, go_sem]) rfl ⟨_, rfl, ?_, HB.out⟩
        rw [← TT]
        exact ROW.out
end Go.Proofs.YtokfhhngnpbdkaaDoor

/- DF -/
namespace Go.Proofs.YtokfhhngnpbdkaaDoor
set_option linter.unusedVariables false
set_option maxRecDepth 2000
set_option linter.unusedSimpArgs false
open Go.RowKit
attribute [local go_sem] nums_length
theorem nm_row {w : World} {base n : Nat} {e : TypeId} {k : IntKind} {q : Option Addr} {m c : Nat} {f : Nat → Int} (h : w.ownsRow base e 1 (.slice q m c) n (nums k f n)) : m = n ∧ Nm w k q n f := by
  rcases h.2 with ⟨h0, rfl⟩ | ⟨g, cap, cur, h0, _, hg, _⟩
  · cases h0; exact ⟨rfl, .inl rfl⟩
  · cases h0; exact ⟨rfl, .inr ⟨g, 0, rfl, (row_has h).1⟩⟩
theorem infoQ : (Tryd.prog.info? 82).map (fun i => (i.zero, i.size, i.bytes)) = some (some (.int .u64 0), 1, 8) := by kernel_rfl
theorem infoQ_parts : ∃ i, Tryd.prog.info? 82 = some i ∧ i.zero = some (.int .u64 0) ∧ i.size = 1 ∧ i.bytes = 8 := by
  obtain ⟨i, hi, h⟩ := Option.map_eq_some_iff.1 infoQ
  simp only [Prod.mk.injEq] at h
  exact ⟨i, hi, h.1, h.2.1, h.2.2⟩
/-- what the document writes for a number with a sign -/
def upU (W : Nat) (z : Int) : Int := if z < 0 then pw W + z else z
theorem up_fit (W : Nat) (z : Int) (h : fitS W z = true) : 0 ≤ upU W z ∧ fitU W (upU W z) = true := by
  have hp := pw_pos W
  simp only [fitS, fitU, decide_eq_true_eq] at *
  unfold upU
  by_cases hz : z < 0
  · rw [if_pos hz]; omega
  · rw [if_neg hz]; omega
theorem up_dg (W i : Nat) (z : Int) (h : i < W) : dg (upU W z) i = dg z i := by
  unfold upU
  split
  · exact dg_add z W i h
  · rfl

set_option maxHeartbeats 8000000 in
theorem RSigned_any (q p : Option Addr) (m c n c2 : Nat) (wd : Int) (f g : Nat → Int) (hg : ∀ k, k < n → -9223372036854775808 ≤ g k ∧ g k ≤ 9223372036854775807) (hmc : m ≤ c) (hc : c ≤ 9223372036854775807) (hnc : n ≤ c2) (hc2 : c2 ≤ 9223372036854775807) (hsz : m + 8 * n ≤ 70368744177664) (w : World) (hq : Byt w q m f) (hp : Nm w .i64 p n g) :
    Calls Tryd.prog 63 #[.slice q m c, .int .i64 wd, .slice p n c2] w fun e w' => ∃ v, e = .returned (.tuple #[v, .int .i64 (putE fitS wd n g)]) ∧ w'.ownsRow w.heap.size 5 1 v (putL m n wd (putE fitS wd n g)) (nums .u8 (outF f m wd.toNat g) (putL m n wd (putE fitS wd n g))) ∧ Below w.heap.size w w' := by
  have HG := Lib.hid hg; have HMC := Lib.hid hmc; have HC := Lib.hid hc; have HNC := Lib.hid hnc; have HC2 := Lib.hid hc2; have HSZ := Lib.hid hsz; have HQ := Lib.hid hq; have HP := Lib.hid hp
  clear hg hmc hc hnc hc2 hsz hq hp
  obtain ⟨j0_, hj, hy0, hy1, hy2⟩ := infoQ_parts
  by_cases hbad : wd < 1 ∨ 8 < wd
  · have E : putE fitS wd n g = 2 := by unfold putE badW; rw [if_pos (by simpa using hbad)]
    have L0 : putL m n wd 2 = 0 := rfl
    rw [E, L0]
    by_cases h1 : wd < 1
    · clear hbad E
      go_enter Tryd.func63, Tryd.ntmps63
      go_wp2_with (fail)
      exact bodyPost_ret (v := .tuple #[.slice none 0 0, .int .i64 2]) (by simp [results, Tryd.results63, go_sem]) rfl ⟨_, rfl, World.ownsRow_nil _ _ _ _, Below.refl _ _⟩
    · have h8 : 8 < wd := by omega
      clear hbad E
      go_enter Tryd.func63, Tryd.ntmps63
      go_wp2_with (fail)
      exact bodyPost_ret (v := .tuple #[.slice none 0 0, .int .i64 2]) (by simp [results, Tryd.results63, go_sem]) rfl ⟨_, rfl, World.ownsRow_nil _ _ _ _, Below.refl _ _⟩
  · obtain ⟨W, rfl⟩ : ∃ W : Nat, wd = (W : Int) := ⟨wd.toNat, by omega⟩
    have h1 : 1 ≤ W := by omega
    have h8 : W ≤ 8 := by omega
    have g1 : ¬((W : Int) < 1) := by omega
    have g8 : ¬(8 < (W : Int)) := by omega
    have EE : putE fitS (W : Int) n g = if allB (fun k => fitS W (g k)) n then 0 else 3 := by unfold putE badW; rw [if_neg (by simpa using hbad), Int.toNat_natCast]
    rw [EE, Int.toNat_natCast]
    obtain ⟨E, eE⟩ : ∃ E, (if allB (fun k => fitS W (g k)) n then (0 : Int) else 3) = E := ⟨_, rfl⟩
    rw [eE]
    have HE := Lib.hid eE
    have H1 := Lib.hid h1; have H8 := Lib.hid h8
    obtain ⟨M, eM⟩ : ∃ M, pw W - 1 = M := ⟨_, rfl⟩
    obtain ⟨H, eH⟩ : ∃ H, M / 2 = H := ⟨_, rfl⟩
    have MO := Lib.hid (fun w => most_any W h8 w)
    rw [eM] at MO
    have ev := pw_even h1
    have pp := pw_pos W
    have pl := pw_le h8
    have EM := Lib.hid eM
    have EH : Hid (pw W = 2 * H + 2) := Lib.hid (by omega)
    have HH : Hid (0 ≤ H ∧ H ≤ 9223372036854775807) := Lib.hid (by omega)
    have t1 : M.tdiv 2 = H := by rw [Int.tdiv_eq_ediv_of_nonneg (by omega)]; exact eH
    have t2 : IntKind.u64.wrap H = H := IntWalk.u64_in _ (by omega)
    have t3 : IntKind.i64.wrap H = H := IntWalk.i64_in _ (by omega)
    have t4 : IntKind.i64.wrap (-H) = -H := IntWalk.i64_in _ (by omega)
    have t5 : IntKind.i64.wrap (-H - 1) = -H - 1 := IntWalk.i64_in _ (by omega)
    clear hbad EE h1 h8 eE eM eH ev pp pl
    go_enter Tryd.func63, Tryd.ntmps63
    go_wp2_with (fail)
    go_at_call 62
    refine (MO.out _).mono ?_
    rintro e w1 ⟨rfl, hw⟩
    obtain rfl : w = w1 := hw.symm
    go_wp2_with (fail)
    go_loopw [9, 10] (fun v iv wr => ∃ (k : Nat) (p3 : Option Addr) (c3 : Nat), k ≤ n ∧ Hid (∀ j, j < k → fitS W (g j) = true) ∧ v = .slice p3 k c3 ∧ iv = .int .i64 k ∧ Hid (wr.ownsRow w.heap.size 82 1 (.slice p3 k c3) k (nums .u64 (fun j => upU W (g j)) k)) ∧ Hid (Below w.heap.size w wr)) (fun _ iv _ => (n - (intOf iv).toNat))
    case atStart => exact ⟨0, none, 0, Nat.zero_le _, Lib.hid (fun j hj => absurd hj (Nat.not_lt_zero j)), rfl, rfl, Lib.hid (World.ownsRow_nil _ _ _ _), Lib.hid (Below.refl _ _)⟩
    case round =>
      obtain ⟨k, p3, c3, hk, ALL, rfl, rfl, ROW, HB⟩ := hrel
      by_cases hlt : k < n
      · obtain ⟨D, o, rfl, hD, hcell⟩ := (HP.out.later HB.out).at hlt
        have hki : (k : Int) < (n : Int) := by omega
        have k0 : (0 : Int) ≤ (k : Int) := by omega
        have wk : IntKind.i64.wrap ((k : Int) + 1) = (k : Int) + 1 := IntWalk.i64_in _ (by have := HNC.out; have := HC2.out; omega)
        have XB := Lib.hid (HG.out k hlt)
        obtain ⟨x, ex⟩ : ∃ x, g k = x := ⟨_, rfl⟩
        rw [ex] at hcell XB
        have EX := Lib.hid ex
        have HLT := Lib.hid hlt
        clear hlt hk ex
        by_cases hx1 : H < x
        · have A0 : allB (fun k => fitS W (g k)) n = false := allB_not HLT.out (by rw [EX.out]; unfold fitS; have := EH.out; simp; omega)
          obtain rfl : E = 3 := (by rw [← HE.out, A0]; rfl)
          clear A0 HE
          go_wp2_with (fail)
          exact bodyPost_ret (v := .tuple #[.slice none 0 0, .int .i64 3]) (by simp [results, Tryd.results63, go_sem]) rfl ⟨_, rfl, World.ownsRow_nil _ _ _ _, HB.out⟩
        · by_cases hx2 : x < -H - 1
          · have A0 : allB (fun k => fitS W (g k)) n = false := allB_not HLT.out (by rw [EX.out]; unfold fitS; have := EH.out; simp; omega)
            obtain rfl : E = 3 := (by rw [← HE.out, A0]; rfl)
            clear A0 HE
            go_wp2_with (fail)
            exact bodyPost_ret (v := .tuple #[.slice none 0 0, .int .i64 3]) (by simp [results, Tryd.results63, go_sem]) rfl ⟨_, rfl, World.ownsRow_nil _ _ _ _, HB.out⟩
          · have FX : Hid (fitS W x = true) := Lib.hid (by unfold fitS; have := EH.out; simp; omega)
            have ALL2 : Hid (∀ j, j < k + 1 → fitS W (g j) = true) := Lib.hid fun j hj => (Nat.lt_succ_iff_lt_or_eq.1 hj).elim (ALL.out j) (fun e => by rw [e, EX.out]; exact FX.out)
            have N63 := Lib.hid (show k + 1 ≤ maxLen by have := HSZ.out; have := HLT.out; unfold maxLen; omega)
            have NBY := Lib.hid (show (k + 1) * 8 ≤ 140737488355328 by have := HSZ.out; have := HLT.out; omega)
            obtain ⟨y, ey⟩ : ∃ y, upU W x = y := ⟨_, rfl⟩
            have XS : Hid (nums .u64 (fun j => upU W (g j)) k ++ [.int .u64 y] = nums .u64 (fun j => upU W (g j)) (k + 1)) := Lib.hid (nums_append .u64 (fun j => upU W (g j)) (fun _ => y) k 1 (fun i hi => by
              obtain rfl : i = 0 := by omega
              rw [Nat.add_zero, EX.out]
              exact ey))
            have HS2 : Hid (w.heap.size ≤ (wr.alloc (.cells #[.int .u64 y] 82)).heap.size) := Lib.hid (Below.al HB.out).size
            clear ALL
            by_cases hx3 : x < 0
            · have e1 : y = pw W + x := by rw [← ey, upU, if_pos hx3]
              have EH' := EH.out; have HH' := HH.out; have EM' := EM.out
              obtain ⟨y3, e3⟩ : ∃ y3, -(x + 1) = y3 := ⟨_, rfl⟩
              have r1 : IntKind.i64.wrap (x + 1) = x + 1 := IntWalk.i64_in _ (by have := XB.out; omega)
              have r2 : IntKind.i64.wrap (-(x + 1)) = y3 := by rw [e3]; exact IntWalk.i64_in _ (by have := XB.out; omega)
              have r3 : IntKind.u64.wrap y3 = y3 := IntWalk.u64_in _ (by have := XB.out; omega)
              have r4 : IntKind.u64.wrap (M - y3) = y := by rw [IntWalk.u64_in _ (by omega)]; omega
              clear EH' HH' EM' e1 e3 ey
              go_wp2_with (fail)
              go_quiet (first | (go_at_call 62; exact Calls.quiet_of_same (MO.out _)))
              obtain ⟨w3, e3⟩ : ∃ x, x = wr.drewN nq := ⟨_, rfl⟩
              have hBd : Below wr.heap.size wr w3 := e3 ▸ below_drewN (Below.refl _ _) _
              rw [← e3]
              have ROW3 := Lib.hid (row_later ROW.out hBd)
              have HB3 := Lib.hid (Below.go HB.out hBd)
              have HS3 : Hid (w.heap.size ≤ (w3.alloc (.cells #[.int .u64 y] 82)).heap.size) := Lib.hid (Below.al HB3.out).size
              clear e3 hBd hcell hD HB ROW HS2
              go_wp2_with (at_builtin; refine wpList_append_own _ rfl _ _ 97 rfl w.heap.size 82 j0_ (.int .u64 0) 1 8 Tryd.underlying97 hj hy0 hy1 hy2 rfl (by decide) _ (k) _ rfl (row_later ROW3.out (Below.al (Below.refl _ _))) ⟨w3.heap.size, 0, none⟩ 1 1 [.int .u64 (y)] rfl rfl (Own.newAt (by rfl)).news (by intro v hv; cases hv with | head => rfl | tail _ h => nomatch h) N63.out NBY.out HS3.out ?_; intro v' w6 hrow hgr _; obtain ⟨p', c', rfl, _⟩ := row_form hrow; rw [XS.out] at hrow; have o4 := Lib.hid ((Below.al HB3.out).grown hgr (Below.al HB3.out).size fun q hq => row_ge ROW3.out q hq); have o6 := Lib.hid hrow; clear hrow hgr)
              go_roundw
              case rel => (first | exact ⟨k + 1, _, _, HLT.out, ALL2, rfl, by go_num, o6, o4⟩ | ((repeat apply Exists.intro); exact ⟨⟨k + 1, _, _, HLT.out, ALL2, rfl, by go_num, o6, o4⟩, rfl⟩))
              case measure => (have := HLT.out; simp [intOf]; omega)
            · have e1 : y = x := by rw [← ey, upU, if_neg hx3]
              subst e1
              have r1 : IntKind.u64.wrap y = y := IntWalk.u64_in _ (by have := XB.out; omega)
              clear ey
              go_wp2_with (at_builtin; refine wpList_append_own _ rfl _ _ 97 rfl w.heap.size 82 j0_ (.int .u64 0) 1 8 Tryd.underlying97 hj hy0 hy1 hy2 rfl (by decide) _ (k) _ rfl (row_later ROW.out (Below.al (Below.refl _ _))) ⟨wr.heap.size, 0, none⟩ 1 1 [.int .u64 (y)] rfl rfl (Own.newAt (by rfl)).news (by intro v hv; cases hv with | head => rfl | tail _ h => nomatch h) N63.out NBY.out HS2.out ?_; intro v' w6 hrow hgr _; obtain ⟨p', c', rfl, _⟩ := row_form hrow; rw [XS.out] at hrow; have o4 := Lib.hid ((Below.al HB.out).grown hgr (Below.al HB.out).size fun q hq => row_ge ROW.out q hq); have o6 := Lib.hid hrow; clear hrow hgr)
              go_roundw
              case rel => (first | exact ⟨k + 1, _, _, HLT.out, ALL2, rfl, by go_num, o6, o4⟩ | ((repeat apply Exists.intro); exact ⟨⟨k + 1, _, _, HLT.out, ALL2, rfl, by go_num, o6, o4⟩, rfl⟩))
              case measure => (have := HLT.out; simp [intOf]; omega)
      · obtain rfl : k = n := by omega
        have A1 : allB (fun j => fitS W (g j)) k = true := allB_iff.2 ALL.out
        obtain rfl : E = 0 := (by rw [← HE.out, A1]; rfl)
        clear A1 HE
        go_wp2_with (fail)
        go_at_call 50
        have GB : ∀ j, j < k → 0 ≤ upU W (g j) ∧ upU W (g j) ≤ 18446744073709551615 := fun j hj => by
          have a := up_fit W (g j) (ALL.out j hj)
          have b := pw_le H8.out
          have c := a.2
          simp only [fitU, decide_eq_true_eq] at c
          exact ⟨a.1, by omega⟩
        have AU : allB (fun j => fitU W (upU W (g j))) k = true := allB_iff.2 fun j hj => (up_fit W (g j) (ALL.out j hj)).2
        have cap := row_cap_ ROW.out
        have E0 : putE fitU (W : Int) k (fun j => upU W (g j)) = 0 := by unfold putE badW; rw [if_neg (by simp; omega), Int.toNat_natCast, AU]; rfl
        have R := RPut_any q p3 m c k c3 (W : Int) f (fun j => upU W (g j)) GB HMC.out HC.out cap.1 cap.2 HSZ.out wr (HQ.out.later HB.out) (nm_row ROW.out).2
        rw [E0, Int.toNat_natCast] at R
        refine R.mono ?_
        rintro e w5 ⟨v, rfl, hrow, hb⟩
        have PL : putL m k (W : Int) 0 = m + W * k := by simp [putL]
        have hrow2 : w5.ownsRow w.heap.size 5 1 v (putL m k (W : Int) 0) (nums .u8 (outF f m W g) (putL m k (W : Int) 0)) := by
          have r := row_base hrow HB.out.size
          rw [PL] at r ⊢
          rw [nums_congr .u8 (fun j hj => outF_congr f f m W k (fun j => upU W (g j)) g (fun _ _ => rfl) (fun l i _ hi => up_dg W i (g l) hi) hj)] at r
          exact r
        have ROW5 := Lib.hid hrow2
        have HB5 := Lib.hid (Below.go HB.out hb)
        clear hrow hrow2 hb PL R E0 GB AU cap
        go_wp2_with (fail)
        exact bodyPost_ret (v := .tuple #[v, .int .i64 0]) (by simp [results, Tryd.results63, go_sem]) rfl ⟨v, rfl, ROW5.out, HB5.out⟩
end Go.Proofs.YtokfhhngnpbdkaaDoor

/- DJ -/
namespace Go.Proofs.YtokfhhngnpbdkaaDoor
set_option linter.unusedVariables false
set_option maxRecDepth 2000
set_option linter.unusedSimpArgs false
open Go.RowKit
attribute [local go_sem] nums_length
attribute [local go_sem ↓ high] sliced_head sliced_one
/-- how many bytes are left -/
def leftN (N at_ : Nat) (er : Int) : Nat := if er = 0 then N - at_ else 0
/-- a slice that holds f's first n bytes, in block D, which is not K -/
def BytD (w : World) (q : Option Addr) (n : Nat) (f : Nat → Int) (K D : Nat) : Prop := n = 0 ∨ ∃ off, q = some ⟨D, off, none⟩ ∧ D ≠ K ∧ Has D off (nums .u8 f n) w
theorem BytD.later {w w' : World} {q : Option Addr} {n K D : Nat} {f : Nat → Int} (h : BytD w q n f K D) (hb : Below w.heap.size w w') : BytD w' q n f K D := by
  rcases h with h | ⟨off, h1, h2, h3⟩
  · exact .inl h
  · exact .inr ⟨off, h1, h2, h3.later hb⟩
theorem BytD.but {w w' : World} {q : Option Addr} {n K D : Nat} {f : Nat → Int} (h : BytD w q n f K D) (hb : But K w w') : BytD w' q n f K D := by
  rcases h with h | ⟨off, h1, h2, h3⟩
  · exact .inl h
  · exact .inr ⟨off, h1, h2, h3.but hb h2⟩
theorem BytD.far {w w' : World} {q : Option Addr} {n K D S : Nat} {f : Nat → Int} (h : BytD w q n f K D) (hb : But S w w') (hn : D ≠ S) : BytD w' q n f K D := by
  rcases h with h | ⟨off, h1, h2, h3⟩
  · exact .inl h
  · exact .inr ⟨off, h1, h2, h3.but hb hn⟩
theorem BytD.byt {w : World} {q : Option Addr} {n K D : Nat} {f : Nat → Int} (h : BytD w q n f K D) : Byt w q n f := by
  rcases h with h | ⟨off, h1, _, h3⟩
  · exact .inl h
  · exact .inr ⟨D, off, h1, h3⟩
theorem bytD_drop {w : World} {p : Option Addr} {L l c K D : Nat} {f : Nat → Int} (h : BytD w p L f K D) (hl : l ≤ L) (hc : L ≤ c) : BytD w (slq p l c) (L - l) (fun j => f (l + j)) K D := by
  by_cases h0 : L - l = 0
  · exact .inl h0
  · obtain ⟨off, rfl, hk, hb⟩ := h.resolve_left (by omega)
    refine .inr ⟨off + l, ?_, hk, ?_⟩
    · unfold slq
      rw [if_neg (by omega)]
      simp [Addr.add]
    · exact has_drop hb (by omega)
theorem bytD_take {w : World} {p : Option Addr} {L l K D : Nat} {f : Nat → Int} (h : BytD w p L f K D) (hl : l ≤ L) : BytD w p l f K D := by
  by_cases h0 : l = 0
  · exact .inl h0
  · obtain ⟨off, rfl, hk, hb⟩ := h.resolve_left (by omega)
    exact .inr ⟨off, rfl, hk, has_take hb hl⟩
/-- a Reader of N bytes F, of which at_ were read -/
structure Rd (w : World) (K D : Nat) (F : Nat → Int) (N at_ : Nat) (er : Int) : Prop where
  ex : ∃ p c, Own K [.slice p (leftN N at_ er) c, .int .i64 er, .bool true] w ∧ BytD w p (leftN N at_ er) (fun j => F (at_ + j)) K D ∧ leftN N at_ er ≤ c ∧ c ≤ 9223372036854775807
theorem Rd.lt {w : World} {K D : Nat} {F : Nat → Int} {N at_ : Nat} {er : Int} (h : Rd w K D F N at_ er) : K < w.heap.size := by
  obtain ⟨p, c, h1, _⟩ := h.ex
  exact h1.lt
theorem Rd.later {w w' : World} {K D : Nat} {F : Nat → Int} {N at_ : Nat} {er : Int} (h : Rd w K D F N at_ er) (hb : Below w.heap.size w w') : Rd w' K D F N at_ er := by
  obtain ⟨p, c, h1, h2, h3, h4⟩ := h.ex
  exact ⟨p, c, h1.later hb, h2.later hb, h3, h4⟩
/-- the error behind a question of x bytes, of which there are at least lo and at most hi -/
def nxE (N at_ : Nat) (er x lo hi : Int) : Int := if er ≠ 0 then er else if x < lo ∨ hi < x then 2 else if ((N - at_ : Nat) : Int) < x then 4 else 0
def nxA (at_ : Nat) (x E : Int) : Nat := if E = 0 then at_ + x.toNat else at_
def nxL (x E : Int) : Nat := if E = 0 then x.toNat else 0
def endE (N at_ : Nat) (er : Int) : Int := if er ≠ 0 then er else if at_ < N then 5 else 0

theorem fail_any (K : Nat) (a b c : Value) (e : Int) (w : World) (hK : Own K [a, b, c] w) :
    Calls Tryd.prog 104 #[.pointer (some ⟨K, 0, none⟩), .int .i64 e] w fun r w' => r = .returned (.tuple #[]) ∧ Own K [.slice none 0 0, .int .i64 e, c] w' ∧ But K w w' := by
  have f0 := hK.ok 0 (by simp); have f1 := hK.ok 1 (by simp)
  have k0 := hK.at 0 _ rfl; have k1 := hK.at 1 _ rfl
  have Kl := hK.lt
  have O1 : Own K [.slice none 0 0, b, c] (w.setCells K 0 [.slice none 0 0]) := Own.part (o := 0) (vs := [.slice none 0 0]) hK (by simp)
  have O2 : Own K [.slice none 0 0, .int .i64 e, c] ((w.setCells K 0 [.slice none 0 0]).setCells K 1 [.int .i64 e]) := Own.part (o := 1) (vs := [.int .i64 e]) O1 (by simp)
  have B2 : But K w ((w.setCells K 0 [.slice none 0 0]).setCells K 1 [.int .i64 e]) := But.store.trans But.store
  have OO := Lib.hid O2; have BB := Lib.hid B2
  clear O1 O2 B2 hK
  go_enter Tryd.func104, Tryd.ntmps104
  go_wp2_with (fail)
  refine bodyPost_end (results_none rfl _ _ _) rfl ?_
  exact ⟨rfl, OO.out, BB.out⟩
theorem Err_cell (K : Nat) (er : Int) (w : World) (h1 : w.cell? ⟨K, 1, none⟩ = some (.int .i64 er)) (h2 : w.cell? ⟨K, 2, none⟩ = some (.bool true)) (Kl : K < w.heap.size) :
    Calls Tryd.prog 87 #[.pointer (some ⟨K, 0, none⟩)] w fun e w' => e = .returned (.int .i64 er) ∧ w' = w := by
  go_enter Tryd.func87, Tryd.ntmps87
  go_wp2_with (fail)
  go_ret
  exact ⟨rfl, rfl⟩
theorem Left_cell (K n c : Nat) (p : Option Addr) (w : World) (h0 : w.cell? ⟨K, 0, none⟩ = some (.slice p n c)) (Kl : K < w.heap.size) :
    Calls Tryd.prog 88 #[.pointer (some ⟨K, 0, none⟩)] w fun e w' => e = .returned (.int .i64 n) ∧ w' = w := by
  go_enter Tryd.func88, Tryd.ntmps88
  go_wp2_with (fail)
  go_ret
  exact ⟨rfl, rfl⟩
theorem Rd.far {w w' : World} {K D S : Nat} {F : Nat → Int} {N at_ : Nat} {er : Int} (h : Rd w K D F N at_ er) (hb : But S w w') (hK : K ≠ S) (hD : D ≠ S) : Rd w' K D F N at_ er := by
  obtain ⟨p, c, h1, h2, h3, h4⟩ := h.ex
  exact ⟨p, c, h1.but hb hK, h2.far hb hD, h3, h4⟩
theorem Err_any {K D N at_ : Nat} {er : Int} {F : Nat → Int} {w : World} (h : Rd w K D F N at_ er) : Calls Tryd.prog 87 #[.pointer (some ⟨K, 0, none⟩)] w fun e w' => e = .returned (.int .i64 er) ∧ w' = w := by
  obtain ⟨p, c, h1, _⟩ := h.ex
  exact Err_cell K er w (h1.at 1 _ rfl) (h1.at 2 _ rfl) h1.lt
theorem Left_any {K D N at_ : Nat} {er : Int} {F : Nat → Int} {w : World} (h : Rd w K D F N at_ er) : Calls Tryd.prog 88 #[.pointer (some ⟨K, 0, none⟩)] w fun e w' => e = .returned (.int .i64 (leftN N at_ er)) ∧ w' = w := by
  obtain ⟨p, c, h1, _⟩ := h.ex
  exact Left_cell K _ c p w (h1.at 0 _ rfl) h1.lt
set_option maxHeartbeats 4000000 in
theorem End_any {K D N at_ : Nat} {er : Int} {F : Nat → Int} {w : World} (h : Rd w K D F N at_ er) : Calls Tryd.prog 71 #[.pointer (some ⟨K, 0, none⟩)] w fun e w' => e = .returned (.int .i64 (endE N at_ er)) ∧ w' = w := by
  have HE := Lib.hid (Err_any h); have HL := Lib.hid (Left_any h)
  clear h
  by_cases h0 : er = 0
  · subst h0
    obtain ⟨n, en⟩ : ∃ n, leftN N at_ 0 = n := ⟨_, rfl⟩
    rw [en] at HL
    by_cases hn : at_ < N
    · have e1 : endE N at_ 0 = 5 := by simp [endE, hn]
      have n1 : (0 : Int) < (n : Int) := by simp [leftN] at en; omega
      have n2 : 0 < n := by omega
      rw [e1]
      go_enter Tryd.func71, Tryd.ntmps71
      go_wp2_with (fail)
      go_at_call 87
      refine (HE.out).mono ?_
      rintro e w1 ⟨rfl, hw⟩
      obtain rfl : w = w1 := hw.symm
      go_wp2_with (fail)
      go_at_call 88
      refine (HL.out).mono ?_
      rintro e w1 ⟨rfl, hw⟩
      obtain rfl : w = w1 := hw.symm
      go_wp2_with (fail)
      go_ret
      exact ⟨rfl, rfl⟩
    · have e1 : endE N at_ 0 = 0 := by simp [endE, hn]
      have n2 : n = 0 := by simp [leftN] at en; omega
      subst n2
      rw [e1]
      go_enter Tryd.func71, Tryd.ntmps71
      go_wp2_with (fail)
      go_at_call 87
      refine (HE.out).mono ?_
      rintro e w1 ⟨rfl, hw⟩
      obtain rfl : w = w1 := hw.symm
      go_wp2_with (fail)
      go_at_call 88
      refine (HL.out).mono ?_
      rintro e w1 ⟨rfl, hw⟩
      obtain rfl : w = w1 := hw.symm
      go_wp2_with (fail)
      go_ret
      exact ⟨rfl, rfl⟩
  · have e1 : endE N at_ er = er := by simp [endE, h0]
    rw [e1]
    go_enter Tryd.func71, Tryd.ntmps71
    go_wp2_with (fail)
    go_at_call 87
    refine (HE.out).mono ?_
    rintro e w1 ⟨rfl, hw⟩
    obtain rfl : w = w1 := hw.symm
    go_wp2_with (fail)
    go_ret
    exact ⟨rfl, rfl⟩
set_option maxHeartbeats 4000000 in
theorem Clone_any (q : Option Addr) (n c : Nat) (f : Nat → Int) (hn : n ≤ 70368744177664) (w : World) (hq : Byt w q n f) :
    Calls Tryd.prog 85 #[.slice q n c] w fun e w' => ∃ v, e = .returned v ∧ w'.ownsRow w.heap.size 5 1 v n (nums .u8 f n) ∧ Below w.heap.size w w' := by
  have HQ := Lib.hid hq; have HN := Lib.hid (show 0 + n ≤ 140737488355328 by omega)
  clear hq hn
  have hcv := Lib.run_eql_slice_nil (P := Tryd.prog) w 48 5 q n c 0 0 Tryd.underlying48
  cases q with
  | none =>
    have n0 : n = 0 := by
      rcases HQ.out with h | ⟨b, off, h, _⟩
      · exact h
      · cases h
    subst n0
    go_enter Tryd.func85, Tryd.ntmps85
    go_wp2_with (fail)
    go_ret
    exact ⟨_, rfl, World.ownsRow_nil _ _ _ _, Below.refl _ _⟩
  | some a =>
    go_enter Tryd.func85, Tryd.ntmps85
    go_wp2_with (at_builtin; refine wpList_append_b rfl _ _ rfl w.heap.size _ 0 [] rfl (World.ownsRow_lit w #[] 0 (Nat.le_refl _) (by decide) rfl) (some a) n c f rfl (HQ.out.later (Below.al (Below.refl _ _))) HN.out (by simp) ?_; intro v' w6 hrow hgr; obtain ⟨p', c', rfl, _⟩ := row_form hrow; rw [Nat.zero_add, List.nil_append] at hrow; have o4 := Lib.hid ((Below.al (o := (.cells #[] 5)) (Below.refl w.heap.size w)).grown hgr (by simp) (fun q hq => by cases hq; exact Nat.le_refl _)); have o6 := Lib.hid hrow; clear hrow hgr)
    go_ret
    exact ⟨_, rfl, o6.out, o4.out⟩
theorem New_any (q : Option Addr) (n c : Nat) (f : Nat → Int) (hn : n ≤ 70368744177664) (w : World) (hq : Byt w q n f) :
    Calls Tryd.prog 69 #[.slice q n c] w fun e w' => ∃ K D, e = .returned (.pointer (some ⟨K, 0, none⟩)) ∧ w.heap.size ≤ K ∧ w.heap.size ≤ D ∧ D < w'.heap.size ∧ Rd w' K D f n 0 0 ∧ Below w.heap.size w w' := by
  have HC := Lib.hid (Clone_any q n c f hn w hq)
  clear hn hq
  go_enter Tryd.func69, Tryd.ntmps69
  go_wp2_with (fail)
  go_at_call 85
  refine (HC.out).mono ?_
  rintro e w1 ⟨v, rfl, hrow, hb⟩
  obtain ⟨p1, c1, rfl, _⟩ := row_form hrow
  have ROW := Lib.hid hrow; have HB := Lib.hid hb
  clear hrow hb HC
  go_wp2_with (fail)
  go_ret
  rcases (byt_row ROW.out).2 with h | ⟨b, off, h1, h2⟩
  · refine ⟨_, w1.heap.size, rfl, HB.out.size, HB.out.size, by simp, ⟨p1, c1, ?_, ?_, ?_⟩, Below.al HB.out⟩
    · exact Own.newAt rfl
    · exact .inl (by simpa [leftN] using h)
    · have := row_cap_ ROW.out
      simpa [leftN] using this
  · have hb : w.heap.size ≤ b := by
      rcases ROW.out.2 with ⟨h0, _⟩ | ⟨g, cap, cur, h0, hg, _⟩
      · cases h0; cases h1
      · cases h0; cases h1; exact hg
    have hl := h2.lt
    refine ⟨_, b, rfl, HB.out.size, hb, by simp; omega, ⟨p1, c1, ?_, ?_, ?_⟩, Below.al HB.out⟩
    · exact Own.newAt rfl
    · exact .inr ⟨off, h1, by omega, by simpa [leftN] using h2.alloc⟩
    · have := row_cap_ ROW.out
      simpa [leftN] using this
end Go.Proofs.YtokfhhngnpbdkaaDoor

/- DK -/
namespace Go.Proofs.YtokfhhngnpbdkaaDoor
set_option linter.unusedVariables false
set_option maxRecDepth 2000
set_option linter.unusedSimpArgs false
open Go.RowKit
attribute [local go_sem] nums_length
attribute [local go_sem ↓ high] sliced_head sliced_one
set_option maxHeartbeats 8000000 in
theorem cut_any {K D N at_ : Nat} {er : Int} {F : Nat → Int} {w : World} (x lo hi : Int) (hlo : 0 ≤ lo) (h : Rd w K D F N at_ er) :
    Calls Tryd.prog 90 #[.pointer (some ⟨K, 0, none⟩), .int .i64 x, .int .i64 lo, .int .i64 hi] w fun e w' => ∃ p' c', e = .returned (.slice p' (nxL x (nxE N at_ er x lo hi)) c') ∧ nxL x (nxE N at_ er x lo hi) ≤ c' ∧ c' ≤ 9223372036854775807 ∧ Byt w' p' (nxL x (nxE N at_ er x lo hi)) (fun j => F (at_ + j)) ∧ Rd w' K D F N (nxA at_ x (nxE N at_ er x lo hi)) (nxE N at_ er x lo hi) ∧ But K w w' := by
  have ER := Lib.hid (Err_any h)
  obtain ⟨p, c, hK, hby, hlc, hcm⟩ := h.ex
  have RD := Lib.hid h
  clear h
  by_cases h0 : er = 0
  · subst h0
    have eL : leftN N at_ 0 = N - at_ := rfl
    rw [eL] at hK hby hlc
    have HK := Lib.hid hK
    have k0 := hK.at 0 _ rfl; have k1 := hK.at 1 _ rfl; have k2 := hK.at 2 _ rfl
    have f0 := hK.ok 0 (by simp)
    have Kl := hK.lt
    clear hK eL
    by_cases h1 : x < lo
    · have E : nxE N at_ 0 x lo hi = 2 := by simp [nxE, h1]
      rw [E]
      clear hlc hcm hby RD
      go_enter Tryd.func90, Tryd.ntmps90
      go_wp2_with (fail)
      go_at_call 87
      refine (ER.out).mono ?_
      rintro e w1 ⟨rfl, hw⟩
      obtain rfl : w = w1 := hw.symm
      go_wp2_with (fail)
      go_at_call 104
      refine (fail_any K _ _ _ 2 w HK.out).mono ?_
      rintro e w1 ⟨rfl, hO, hb⟩
      have HO := Lib.hid hO; have HB := Lib.hid hb
      clear hO hb k0 k1 k2 f0
      go_wp2_with (fail)
      go_ret
      exact ⟨none, 0, rfl, Nat.le_refl _, by decide, .inl rfl, ⟨none, 0, HO.out, .inl rfl, Nat.le_refl _, by decide⟩, HB.out⟩
    · by_cases h2 : hi < x
      · have E : nxE N at_ 0 x lo hi = 2 := by simp [nxE, h1, h2]
        rw [E]
        clear hlc hcm hby RD
        go_enter Tryd.func90, Tryd.ntmps90
        go_wp2_with (fail)
        go_at_call 87
        refine (ER.out).mono ?_
        rintro e w1 ⟨rfl, hw⟩
        obtain rfl : w = w1 := hw.symm
        go_wp2_with (fail)
        go_at_call 104
        refine (fail_any K _ _ _ 2 w HK.out).mono ?_
        rintro e w1 ⟨rfl, hO, hb⟩
        have HO := Lib.hid hO; have HB := Lib.hid hb
        clear hO hb k0 k1 k2 f0
        go_wp2_with (fail)
        go_ret
        exact ⟨none, 0, rfl, Nat.le_refl _, by decide, .inl rfl, ⟨none, 0, HO.out, .inl rfl, Nat.le_refl _, by decide⟩, HB.out⟩
      · obtain ⟨X, rfl⟩ : ∃ X : Nat, x = (X : Int) := ⟨x.toNat, by omega⟩
        by_cases h3 : N - at_ < X
        · have h3i : ((N - at_ : Nat) : Int) < (X : Int) := by omega
          have E : nxE N at_ 0 (X : Int) lo hi = 4 := by
            unfold nxE
            rw [if_neg (by simp), if_neg (by omega), if_pos h3i]
          rw [E]
          obtain ⟨L, eLL⟩ : ∃ L, N - at_ = L := ⟨_, rfl⟩
          rw [eLL] at h3i h3 k0 HK
          clear hlc hcm hby RD eLL
          go_enter Tryd.func90, Tryd.ntmps90
          go_wp2_with (fail)
          go_at_call 87
          refine (ER.out).mono ?_
          rintro e w1 ⟨rfl, hw⟩
          obtain rfl : w = w1 := hw.symm
          go_wp2_with (fail)
          go_at_call 104
          refine (fail_any K _ _ _ 4 w HK.out).mono ?_
          rintro e w1 ⟨rfl, hO, hb⟩
          have HO := Lib.hid hO; have HB := Lib.hid hb
          clear hO hb k0 k1 k2 f0
          go_wp2_with (fail)
          go_ret
          exact ⟨none, 0, rfl, Nat.le_refl _, by decide, .inl rfl, ⟨none, 0, HO.out, .inl rfl, Nat.le_refl _, by decide⟩, HB.out⟩
        · have E : nxE N at_ 0 (X : Int) lo hi = 0 := by
            unfold nxE
            rw [if_neg (by simp), if_neg (by omega), if_neg (by omega)]
          rw [E]
          have A : nxA at_ (X : Int) 0 = at_ + X := by simp [nxA]
          have B : nxL (X : Int) 0 = X := by simp [nxL]
          rw [A, B]
          have RL : leftN N (at_ + X) 0 = N - at_ - X := by simp [leftN]; omega
          obtain ⟨L, eLL⟩ : ∃ L, N - at_ = L := ⟨_, rfl⟩
          rw [eLL] at h3 k0 HK hlc hby RL
          have x0 : (0 : Int) ≤ (X : Int) := by omega
          have xl : (X : Int) ≤ (L : Int) := by omega
          have xc : (X : Int) ≤ (c : Int) := by omega
          have nl : ¬((L : Int) < (X : Int)) := by omega
          have BY := Lib.hid hby
          have O1 := Lib.hid (show Own K [.slice (slq p X c) (L - X) (c - X), .int .i64 0, .bool true] (w.setCell ⟨K, 0, none⟩ (.slice (slq p X c) (L - X) (c - X))) from Own.part (o := 0) (vs := [.slice (slq p X c) (L - X) (c - X)]) HK.out (by simp))
          have B1 := Lib.hid (show But K w (w.setCell ⟨K, 0, none⟩ (.slice (slq p X c) (L - X) (c - X))) from But.store (o := 0) (vs := [.slice (slq p X c) (L - X) (c - X)]))
          have SQ := Lib.hid (show slq p X c = if c = X then p else p.map (·.add X) from rfl)
          have RLH := Lib.hid RL; have XL := Lib.hid (show X ≤ L by omega); have LC := Lib.hid hlc; have CM := Lib.hid hcm
          clear hlc hcm hby RD eLL RL h3 A B E
          go_enter Tryd.func90, Tryd.ntmps90
          go_wp2_with (fail)
          go_at_call 87
          refine (ER.out).mono ?_
          rintro e w1 ⟨rfl, hw⟩
          obtain rfl : w = w1 := hw.symm
          go_wp2_with (fail)
          all_goals (
            first
            | (have hcx : c = X := by assumption
               have e1 : Value.slice (slq p X c) (L - X) (c - X) = .slice p (L - X) 0 := by rw [SQ.out, if_pos hcx, hcx, Nat.sub_self]
               rw [← e1])
            | (have hcx : ¬c = X := by assumption
               have e1 : Value.slice (slq p X c) (L - X) (c - X) = .slice (p.map (·.add X)) (L - X) (c - X) := by rw [SQ.out, if_neg hcx]
               rw [← e1])
            go_ret
            have BX := BY.out
            refine ⟨p, X, rfl, Nat.le_refl _, by have := CM.out; have := LC.out; have := XL.out; omega, ((bytD_take BX XL.out).but B1.out).byt, ⟨slq p X c, c - X, ?_, ?_, ?_, ?_⟩, B1.out⟩
            · rw [RLH.out]; exact O1.out
            · rw [RLH.out]
              have := (bytD_drop BX XL.out LC.out).but B1.out
              simpa only [Nat.add_assoc] using this
            · rw [RLH.out]; have := LC.out; omega
            · have := CM.out; omega)
  · have E : nxE N at_ er x lo hi = er := by simp [nxE, h0]
    have A : nxA at_ x er = at_ := by simp [nxA, h0]
    have B : nxL x er = 0 := by simp [nxL, h0]
    have en : ¬er = 0 := h0
    rw [E, A, B]
    clear hK hby hlc hcm h0
    go_enter Tryd.func90, Tryd.ntmps90
    go_wp2_with (fail)
    go_at_call 87
    refine (ER.out).mono ?_
    rintro e w1 ⟨rfl, hw⟩
    obtain rfl : w = w1 := hw.symm
    go_wp2_with (fail)
    go_ret
    exact ⟨none, 0, rfl, Nat.le_refl _, by decide, .inl rfl, RD.out, But.refl _ _⟩
end Go.Proofs.YtokfhhngnpbdkaaDoor

/- DL -/
namespace Go.Proofs.YtokfhhngnpbdkaaDoor
set_option linter.unusedVariables false
set_option maxRecDepth 2000
set_option linter.unusedSimpArgs false
open Go.RowKit
attribute [local go_sem] nums_length
theorem or_step (A b : Int) (i : Nat) (hi : i < 8) (h0 : 0 ≤ A) (h1 : A < pw i) (hb : inB b) : bits .or .u64 A (IntKind.u64.wrap (b * pw i)) = A + pw i * b := by
  unfold inB at hb
  have hp := pw_pos i
  have hl : b * pw i < 18446744073709551616 := by
    have e : pw (i + 1) ≤ 18446744073709551616 := pw_le (by omega)
    rw [pw_succ] at e
    have : b * pw i ≤ 255 * pw i := Int.mul_le_mul_of_nonneg_right (by omega) (Int.le_of_lt hp)
    omega
  have h2 : 0 ≤ b * pw i := Int.mul_nonneg hb.1 (Int.le_of_lt hp)
  rw [IntWalk.u64_in _ (by omega)]
  obtain ⟨a, rfl⟩ := Int.eq_ofNat_of_zero_le h0
  obtain ⟨c, rfl⟩ := Int.eq_ofNat_of_zero_le hb.1
  have ep : pw i = ((2 ^ (8 * i) : Nat) : Int) := by rw [pw_two]; push_cast; rfl
  have hp2 : pw i ≤ 18446744073709551616 := pw_le (by omega)
  rw [ep] at h1 hl h2 hp2 ⊢
  have ha : a < 2 ^ (8 * i) := by
    have : (a : Int) < ((2 ^ (8 * i) : Nat) : Int) := h1
    exact Int.ofNat_lt.1 this
  have e2 : (c : Int) * ((2 ^ (8 * i) : Nat) : Int) = ((c * 2 ^ (8 * i) : Nat) : Int) := by push_cast; rfl
  have e3 : ((2 ^ (8 * i) : Nat) : Int) * (c : Int) = ((c * 2 ^ (8 * i) : Nat) : Int) := by rw [Int.mul_comm, e2]
  rw [e3]
  rw [e2] at hl h2 ⊢
  have hq : (c * 2 ^ (8 * i)) % 2 ^ (8 * i) = 0 := Nat.mul_mod_left _ _
  have hl2 : c * 2 ^ (8 * i) < 18446744073709551616 := Int.ofNat_lt.1 hl
  have ha2 : 2 ^ (8 * i) ≤ 18446744073709551616 := Int.ofNat_le.1 hp2
  generalize hm : c * 2 ^ (8 * i) = m at *
  have R := u64_or_nat a m (Nat.lt_of_lt_of_le ha ha2) hl2
  have J := nat_join (8 * i) m a hq ha
  refine R.trans ?_
  rw [Nat.or_comm, J]
  push_cast
  exact Int.add_comm _ _

set_option maxHeartbeats 4000000 in
theorem number_any (q : Option Addr) (n c : Nat) (f : Nat → Int) (hn : n ≤ 8) (hf : ∀ j, j < n → inB (f j)) (w : World) (hq : Byt w q n f) :
    Calls Tryd.prog 89 #[.slice q n c] w fun e w' => e = .returned (.int .u64 (leN f n)) ∧ w' = w := by
  have HQ := Lib.hid hq; have HF := Lib.hid hf; have HN := Lib.hid hn
  clear hq hf hn
  go_enter Tryd.func89, Tryd.ntmps89
  go_wp2_with (fail)
  go_loopw [3, 8] (fun av iv wr => ∃ (k : Nat) (A : Int), k ≤ n ∧ av = .int .u64 A ∧ Hid (A = leN f k) ∧ iv = .int .i64 k ∧ w = wr) (fun _ iv _ => (n - (intOf iv).toNat))
  case atStart => exact ⟨0, 0, Nat.zero_le _, rfl, Lib.hid rfl, rfl, rfl⟩
  case round =>
    obtain ⟨k, A, hk, rfl, HA, rfl, rfl⟩ := hrel
    by_cases hlt : k < n
    · obtain ⟨D, o, rfl, hH⟩ := HQ.out.resolve_left (by omega)
      have hcell : w.cell? ⟨D, o + k, none⟩ = some (.int .u8 (f k)) := hH.cell k _ (nums_at _ _ hlt)
      have hD := hH.lt
      have hki : (k : Int) < (n : Int) := by omega
      have k0 : (0 : Int) ≤ (k : Int) := by omega
      have wk : IntKind.i64.wrap ((k : Int) + 1) = (k : Int) + 1 := IntWalk.i64_in _ (by have := HN.out; omega)
      have w8 : IntKind.i64.wrap (8 * (k : Int)) = ((8 * k : Nat) : Int) := by rw [IntWalk.i64_in _ (by have := HN.out; omega)]; omega
      have k8 : (0 : Int) ≤ 8 * (k : Int) := by omega
      have k64 : 8 * (k : Int) ≤ 64 := by have := HN.out; omega
      have HLT := Lib.hid hlt
      have BX := HF.out k hlt
      obtain ⟨x, ex⟩ : ∃ x, f k = x := ⟨_, rfl⟩
      rw [ex] at hcell BX
      have lt := leN_lt f k (fun j hj => HF.out j (by omega))
      rw [← HA.out] at lt
      have st := or_step A x k (by have := HN.out; omega) lt.1 lt.2 BX
      obtain ⟨z, ez⟩ : ∃ z, A + pw k * x = z := ⟨_, rfl⟩
      have HZ : Hid (z = leN f (k + 1)) := Lib.hid (by rw [leN, ← HA.out, ex, ez])
      rw [ez] at st
      have wx : IntKind.u64.wrap x = x := IntWalk.u64_in _ (by unfold inB at BX; omega)
      have x0 : 0 ≤ x := BX.1
      rw [pw_two] at st
      clear hlt hk ex lt ez hH BX HA
      go_wp2_with (fail)
      go_roundw
      case rel => (first | exact ⟨k + 1, z, HLT.out, rfl, HZ, by go_num, (by first | rfl | trivial)⟩ | ((repeat apply Exists.intro); exact ⟨⟨k + 1, z, HLT.out, rfl, HZ, by go_num, (by first | rfl | trivial)⟩, rfl⟩))
      case measure => (have := HLT.out; simp [intOf]; omega)
    · obtain rfl : k = n := by omega
      go_wp2_with (fail)
      go_ret
      exact ⟨by rw [← HA.out]; rfl, rfl⟩
theorem nxL_le (N at_ : Nat) (er x : Int) (h : nxE N at_ er x 1 8 = 0) : er = 0 ∧ 1 ≤ x ∧ x ≤ 8 ∧ x ≤ ((N - at_ : Nat) : Int) := by
  unfold nxE at h
  by_cases h0 : er = 0
  · by_cases h1 : x < 1 ∨ 8 < x
    · simp [h0, h1] at h
    · by_cases h2 : ((N - at_ : Nat) : Int) < x
      · simp [h0, h1, h2] at h
      · omega
  · simp [h0] at h
theorem nxL_8 (N at_ : Nat) (er x : Int) : nxL x (nxE N at_ er x 1 8) ≤ 8 := by
  unfold nxL
  split
  · rename_i h
    have := nxL_le N at_ er x h
    omega
  · omega
theorem nx_in (N at_ : Nat) (er x : Int) (F : Nat → Int) (hF : ∀ j, j < N → inB (F j)) : ∀ j, j < nxL x (nxE N at_ er x 1 8) → inB (F (at_ + j)) := fun j hj => by
  unfold nxL at hj
  split at hj
  · rename_i h
    have := nxL_le N at_ er x h
    exact hF _ (by omega)
  · omega
/-- what Num tells -/
def numF (F : Nat → Int) (at_ : Nat) (x E : Int) : Int := leN (fun j => F (at_ + j)) (nxL x E)

set_option maxHeartbeats 4000000 in
theorem Num_any {K D N at_ : Nat} {er : Int} {F : Nat → Int} {w : World} (x : Int) (hF : ∀ j, j < N → inB (F j)) (h : Rd w K D F N at_ er) :
    Calls Tryd.prog 72 #[.pointer (some ⟨K, 0, none⟩), .int .i64 x] w fun e w' => e = .returned (.int .u64 (numF F at_ x (nxE N at_ er x 1 8))) ∧ Rd w' K D F N (nxA at_ x (nxE N at_ er x 1 8)) (nxE N at_ er x 1 8) ∧ But K w w' := by
  have CU := Lib.hid (cut_any x 1 8 (by decide) h)
  have NB := Lib.hid (fun q c w hq => number_any q _ c _ (nxL_8 N at_ er x) (nx_in N at_ er x F hF) w hq)
  unfold numF
  clear h hF
  generalize nxE N at_ er x 1 8 = E at *
  generalize nxL x E = L at *
  go_enter Tryd.func72, Tryd.ntmps72
  go_wp2_with (fail)
  go_at_call 90
  refine (CU.out).mono ?_
  rintro e w1 ⟨p, c, rfl, h1, h2, h3, h4, h5⟩
  have HB := Lib.hid h3; have HR := Lib.hid h4; have HU := Lib.hid h5
  clear h1 h2 h3 h4 h5 CU
  go_wp2_with (fail)
  go_at_call 89
  refine (NB.out _ _ _ HB.out).mono ?_
  rintro e w2 ⟨rfl, hw⟩
  obtain rfl : w1 = w2 := hw.symm
  go_wp2_with (fail)
  go_ret
  exact ⟨rfl, HR.out, HU.out⟩

/-- what Int tells -/
def intF (F : Nat → Int) (at_ : Nat) (x E : Int) : Int := sgn (numF F at_ x E) (nxL x E)
theorem wrap_turn (X : Int) (h0 : 0 ≤ X) (h1 : X < 18446744073709551616) : IntKind.i64.wrap X = if 9223372036854775808 ≤ X then X - 18446744073709551616 else X := by
  have e : X % 18446744073709551616 = X := Int.emod_eq_of_lt h0 h1
  simp [IntKind.wrap, IntKind.bits, IntKind.signed, e]
theorem shift_back (v : Int) (L m : Nat) (h8 : L ≤ 8) (em : 64 - 8 * L = m) (h0 : 0 ≤ v) (h1 : v < pw L) : IntKind.i64.wrap (IntKind.u64.wrap (v * 2 ^ m)) / 2 ^ m = sgn v L := by
  have hT : (0 : Int) < 2 ^ m := Int.pow_pos (by decide)
  have e : pw L * 2 ^ m = 18446744073709551616 := by
    rw [pw_two, ← Int.pow_add, show 8 * L + m = 64 by omega]
    rfl
  generalize (2 : Int) ^ m = T at *
  have hX0 : 0 ≤ v * T := Int.mul_nonneg h0 (Int.le_of_lt hT)
  have hX1 : v * T < 18446744073709551616 := by rw [← e]; exact Int.mul_lt_mul_of_pos_right h1 hT
  rw [IntWalk.u64_in _ (by omega), wrap_turn _ hX0 hX1]
  unfold sgn
  by_cases hc : pw L ≤ 2 * v
  · have : pw L * T ≤ 2 * v * T := Int.mul_le_mul_of_nonneg_right hc (Int.le_of_lt hT)
    rw [e, Int.mul_assoc] at this
    rw [if_pos (by omega), if_pos hc, ← e, ← Int.sub_mul, Int.mul_ediv_cancel _ (by omega)]
  · have : 2 * v * T < pw L * T := Int.mul_lt_mul_of_pos_right (by omega) hT
    rw [e, Int.mul_assoc] at this
    rw [if_neg (by omega), if_neg hc, Int.mul_ediv_cancel _ (by omega)]

set_option maxHeartbeats 4000000 in
theorem Int_any {K D N at_ : Nat} {er : Int} {F : Nat → Int} {w : World} (x : Int) (hF : ∀ j, j < N → inB (F j)) (h : Rd w K D F N at_ er) :
    Calls Tryd.prog 86 #[.pointer (some ⟨K, 0, none⟩), .int .i64 x] w fun e w' => e = .returned (.int .i64 (intF F at_ x (nxE N at_ er x 1 8))) ∧ Rd w' K D F N (nxA at_ x (nxE N at_ er x 1 8)) (nxE N at_ er x 1 8) ∧ But K w w' := by
  have CU := Lib.hid (cut_any x 1 8 (by decide) h)
  have NB := Lib.hid (fun q c w hq => number_any q _ c _ (nxL_8 N at_ er x) (nx_in N at_ er x F hF) w hq)
  have L8 := nxL_8 N at_ er x
  have V := leN_lt (fun j => F (at_ + j)) _ (nx_in N at_ er x F hF)
  unfold intF numF
  clear h hF
  generalize nxE N at_ er x 1 8 = E at *
  generalize nxL x E = L at *
  generalize leN (fun j => F (at_ + j)) L = v at *
  obtain ⟨m, em⟩ : ∃ m, 64 - 8 * L = m := ⟨_, rfl⟩
  have SB := shift_back v L m L8 em V.1 V.2
  have w1 : IntKind.i64.wrap (8 * (L : Int)) = 8 * (L : Int) := IntWalk.i64_in _ (by omega)
  have w2 : IntKind.i64.wrap (64 - 8 * (L : Int)) = (m : Int) := by rw [IntWalk.i64_in _ (by omega)]; omega
  have m0 : (0 : Int) ≤ (m : Int) := by omega
  have m64 : (m : Int) ≤ 64 := by omega
  obtain ⟨s, es⟩ : ∃ s, sgn v L = s := ⟨_, rfl⟩
  rw [es] at SB ⊢
  obtain ⟨y, ey⟩ : ∃ y, IntKind.u64.wrap (v * 2 ^ m) = y := ⟨_, rfl⟩
  rw [ey] at SB
  obtain ⟨z, ez⟩ : ∃ z, IntKind.i64.wrap y = z := ⟨_, rfl⟩
  rw [ez] at SB
  clear L8 V em es
  go_enter Tryd.func86, Tryd.ntmps86
  go_wp2_with (fail)
  go_at_call 90
  refine (CU.out).mono ?_
  rintro e w1 ⟨p, c, rfl, h1, h2, h3, h4, h5⟩
  have HB := Lib.hid h3; have HR := Lib.hid h4; have HU := Lib.hid h5
  clear h1 h2 h3 h4 h5 CU
  go_wp2_with (fail)
  go_at_call 89
  refine (NB.out _ _ _ HB.out).mono ?_
  rintro e w2 ⟨rfl, hw⟩
  obtain rfl : w1 = w2 := hw.symm
  go_wp2_with (fail)
  go_ret
  refine ⟨?_, HR.out, HU.out⟩
  rw [← SB]
  rfl

set_option maxHeartbeats 4000000 in
theorem Take_any {K D N at_ : Nat} {er : Int} {F : Nat → Int} {w : World} (x : Int) (hN : N ≤ 70368744177664) (h : Rd w K D F N at_ er) :
    Calls Tryd.prog 73 #[.pointer (some ⟨K, 0, none⟩), .int .i64 x] w fun e w' => ∃ v, e = .returned v ∧ w'.ownsRow w.heap.size 5 1 v (nxL x (nxE N at_ er x 0 9223372036854775807)) (nums .u8 (fun j => F (at_ + j)) (nxL x (nxE N at_ er x 0 9223372036854775807))) ∧ Rd w' K D F N (nxA at_ x (nxE N at_ er x 0 9223372036854775807)) (nxE N at_ er x 0 9223372036854775807) ∧ But K w w' := by
  have CU := Lib.hid (cut_any x 0 9223372036854775807 (by decide) h)
  have LN : nxL x (nxE N at_ er x 0 9223372036854775807) ≤ N := by
    unfold nxL nxE
    by_cases h0 : er = 0
    · by_cases h1 : x < 0 ∨ 9223372036854775807 < x
      · simp [h0, h1]
      · by_cases h2 : ((N - at_ : Nat) : Int) < x
        · simp [h0, h1, h2]
        · simp [h0, h1, h2]; omega
    · simp [h0]
  have Kl := h.lt
  clear h
  generalize nxE N at_ er x 0 9223372036854775807 = E at *
  generalize nxL x E = L at *
  have CL := Lib.hid (fun q c w hq => Clone_any q L c (fun j => F (at_ + j)) (by omega) w hq)
  have KL := Lib.hid Kl
  clear LN hN Kl
  go_enter Tryd.func73, Tryd.ntmps73
  go_wp2_with (fail)
  go_at_call 90
  refine (CU.out).mono ?_
  rintro e w1 ⟨p, c, rfl, h1, h2, h3, h4, h5⟩
  have HB := Lib.hid h3; have HR := Lib.hid h4; have HU := Lib.hid h5
  clear h1 h2 h3 h4 h5 CU
  go_wp2_with (fail)
  go_at_call 85
  refine (CL.out _ _ _ HB.out).mono ?_
  rintro e w2 ⟨v, rfl, hrow, hb⟩
  have O1 := Lib.hid (row_base hrow HU.out.below.size)
  have O2 := Lib.hid (HR.out.later hb)
  have O3 := Lib.hid (HU.out.trans (But.of hb HR.out.lt))
  clear hrow hb HB HR HU
  go_wp2_with (fail)
  go_ret
  exact ⟨v, rfl, O1.out, O2.out, O3.out⟩
end Go.Proofs.YtokfhhngnpbdkaaDoor

/- DM -/
namespace Go.Proofs.YtokfhhngnpbdkaaDoor
set_option linter.unusedVariables false
set_option maxRecDepth 2000
set_option linter.unusedSimpArgs false
open Go.RowKit
end Go.Proofs.YtokfhhngnpbdkaaDoor

/- DN -/
namespace Go.Proofs.YtokfhhngnpbdkaaDoor
set_option linter.unusedVariables false
set_option maxRecDepth 2000
set_option linter.unusedSimpArgs false
open Go.RowKit
attribute [local go_sem] nums_length
attribute [local go_sem ↓ high] sliced_head sliced_one
/-- the document's Reader of N bytes F, of which at_ were read -/
structure RRd (w : World) (S D : Nat) (F : Nat → Int) (N at_ : Nat) (er : Int) : Prop where
  ex : ∃ p c, Own S [.slice p N c, .int .i64 at_, .int .i64 er] w ∧ BytD w p N F S D ∧ N ≤ c ∧ c ≤ 9223372036854775807
  le : at_ ≤ N
theorem RRd.lt {w : World} {S D : Nat} {F : Nat → Int} {N at_ : Nat} {er : Int} (h : RRd w S D F N at_ er) : S < w.heap.size := by
  obtain ⟨p, c, h1, _⟩ := h.ex
  exact h1.lt
theorem RRd.later {w w' : World} {S D : Nat} {F : Nat → Int} {N at_ : Nat} {er : Int} (h : RRd w S D F N at_ er) (hb : Below w.heap.size w w') : RRd w' S D F N at_ er := by
  obtain ⟨p, c, h1, h2, h3, h4⟩ := h.ex
  exact ⟨⟨p, c, h1.later hb, h2.later hb, h3, h4⟩, h.le⟩
theorem RRd.far {w w' : World} {S D K : Nat} {F : Nat → Int} {N at_ : Nat} {er : Int} (h : RRd w S D F N at_ er) (hb : But K w w') (hS : S ≠ K) (hD : D ≠ K) : RRd w' S D F N at_ er := by
  obtain ⟨p, c, h1, h2, h3, h4⟩ := h.ex
  exact ⟨⟨p, c, h1.but hb hS, h2.far hb hD, h3, h4⟩, h.le⟩

set_option maxHeartbeats 8000000 in
theorem RTake_any {S D N at_ : Nat} {er : Int} {F : Nat → Int} {w : World} (x : Int) (hx : x ≤ 9223372036854775807) (h : RRd w S D F N at_ er) :
    Calls Tryd.prog 60 #[.pointer (some ⟨S, 0, none⟩), .int .i64 x] w fun e w' => ∃ p' c', e = .returned (.slice p' (nxL x (nxE N at_ er x 0 9223372036854775807)) c') ∧ nxL x (nxE N at_ er x 0 9223372036854775807) ≤ c' ∧ c' ≤ 9223372036854775807 ∧ Byt w' p' (nxL x (nxE N at_ er x 0 9223372036854775807)) (fun j => F (at_ + j)) ∧ RRd w' S D F N (nxA at_ x (nxE N at_ er x 0 9223372036854775807)) (nxE N at_ er x 0 9223372036854775807) ∧ But S w w' := by
  obtain ⟨p, c, hS, hby, hlc, hcm⟩ := h.ex
  have hle := h.le
  clear h
  have HS := Lib.hid hS
  have BU := Lib.hid (But.refl S w)
  have s0 := HS.out.at 0 _ rfl; have s1 := HS.out.at 1 _ rfl; have s2 := HS.out.at 2 _ rfl
  have f1 := HS.out.ok 1 (by simp); have f2 := HS.out.ok 2 (by simp); have Sl := HS.out.lt
  have w1 : IntKind.i64.wrap ((N : Int) - (at_ : Int)) = (N : Int) - (at_ : Int) := IntWalk.i64_in _ (by omega)
  clear hS
  by_cases h0 : er = 0
  · subst h0
    by_cases h1 : x < 0
    · have E : nxE N at_ 0 x 0 9223372036854775807 = 2 := by simp [nxE, h1]
      have A : nxA at_ x 2 = at_ := by simp [nxA]
      have B : nxL x 2 = 0 := by simp [nxL]
      rw [E, A, B]
      clear E A B
      go_enter Tryd.func60, Tryd.ntmps60
      go_upto_region 3 with fail
      obtain ⟨w2, e3⟩ : ∃ x, x = w.setCell ⟨S, 2, none⟩ (.int .i64 2) := ⟨_, rfl⟩
      have HS2 := Lib.hid (show Own S [.slice p N c, .int .i64 at_, .int .i64 2] w2 from e3 ▸ (show Own S [.slice p N c, .int .i64 at_, .int .i64 2] (w.setCells S 2 [.int .i64 2]) from Own.part (o := 2) (vs := [.int .i64 2]) HS.out (by simp)))
      have BU2 := Lib.hid (BU.out.trans (show But S w w2 from e3 ▸ (show But S w (w.setCells S 2 [.int .i64 2]) from But.store)))
      rw [← e3]
      clear e3 HS s0 s1 s2 f1 f2 Sl BU
      have s0 := HS2.out.at 0 _ rfl; have s1 := HS2.out.at 1 _ rfl; have s2 := HS2.out.at 2 _ rfl
      have f1 := HS2.out.ok 1 (by simp); have f2 := HS2.out.ok 2 (by simp); have Sl := HS2.out.lt
      go_quiet (fail)
      obtain ⟨w3, e3⟩ : ∃ x, x = World.drewN w2 nq := ⟨_, rfl⟩
      have hBd : Below w2.heap.size w2 w3 := e3 ▸ below_drewN (Below.refl _ _) _
      rw [← e3]
      have HS3 := Lib.hid (HS2.out.later hBd)
      have BU3 := Lib.hid (BU2.out.trans (But.of hBd HS2.out.lt))
      clear e3 hBd HS2 s0 s1 s2 f1 f2 Sl BU2
      have s0 := HS3.out.at 0 _ rfl; have s1 := HS3.out.at 1 _ rfl; have s2 := HS3.out.at 2 _ rfl
      have f1 := HS3.out.ok 1 (by simp); have f2 := HS3.out.ok 2 (by simp); have Sl := HS3.out.lt
      go_wp2_with (fail)
      go_ret
      exact ⟨none, 0, rfl, Nat.le_refl _, by decide, .inl rfl, ⟨⟨p, c, HS3.out, hby.but BU3.out, hlc, hcm⟩, hle⟩, BU3.out⟩
    · obtain ⟨X, rfl⟩ : ∃ X : Nat, x = (X : Int) := ⟨x.toNat, by omega⟩
      by_cases h3 : N - at_ < X
      · have h3i : (N : Int) - (at_ : Int) < (X : Int) := by omega
        have E : nxE N at_ 0 (X : Int) 0 9223372036854775807 = 4 := by
          unfold nxE
          rw [if_neg (by simp), if_neg (by omega), if_pos (by omega)]
        have A : nxA at_ (X : Int) 4 = at_ := by simp [nxA]
        have B : nxL (X : Int) 4 = 0 := by simp [nxL]
        rw [E, A, B]
        clear E A B h3
        go_enter Tryd.func60, Tryd.ntmps60
        go_upto_region 3 with fail
        go_quiet (fail)
        obtain ⟨w3, e3⟩ : ∃ x, x = World.drewN w nq := ⟨_, rfl⟩
        have hBd : Below w.heap.size w w3 := e3 ▸ below_drewN (Below.refl _ _) _
        rw [← e3]
        have HS3 := Lib.hid (HS.out.later hBd)
        have BU3 := Lib.hid (BU.out.trans (But.of hBd HS.out.lt))
        clear e3 hBd HS s0 s1 s2 f1 f2 Sl BU
        have s0 := HS3.out.at 0 _ rfl; have s1 := HS3.out.at 1 _ rfl; have s2 := HS3.out.at 2 _ rfl
        have f1 := HS3.out.ok 1 (by simp); have f2 := HS3.out.ok 2 (by simp); have Sl := HS3.out.lt
        have O1 := Lib.hid (show Own S [.slice p N c, .int .i64 at_, .int .i64 4] (w3.setCell ⟨S, 2, none⟩ (.int .i64 4)) from Own.part (o := 2) (vs := [.int .i64 4]) HS3.out (by simp))
        have B1 := Lib.hid (BU3.out.trans (show But S w3 (w3.setCell ⟨S, 2, none⟩ (.int .i64 4)) from But.store (o := 2) (vs := [.int .i64 4])))
        go_wp2_with (fail)
        go_ret
        first
        | exact ⟨none, 0, rfl, Nat.le_refl _, by decide, .inl rfl, ⟨⟨p, c, O1.out, hby.but B1.out, hlc, hcm⟩, hle⟩, B1.out⟩
        | exact ⟨none, 0, rfl, by decide, .inl rfl, ⟨⟨p, c, O1.out, hby.but B1.out, hlc, hcm⟩, hle⟩, B1.out⟩
      · have E : nxE N at_ 0 (X : Int) 0 9223372036854775807 = 0 := by
          unfold nxE
          rw [if_neg (by simp), if_neg (by omega), if_neg (by omega)]
        have A : nxA at_ (X : Int) 0 = at_ + X := by simp [nxA]
        have B : nxL (X : Int) 0 = X := by simp [nxL]
        rw [E, A, B]
        clear E A B
        obtain ⟨T, eT⟩ : ∃ T, at_ + X = T := ⟨_, rfl⟩
        have hTN : T ≤ N := by omega
        have hge : ¬((N : Int) - (at_ : Int) < (X : Int)) := by omega
        have w5 : IntKind.i64.wrap ((at_ : Int) + (X : Int)) = (T : Int) := by rw [IntWalk.i64_in _ (by omega)]; omega
        have w6 : IntKind.i64.wrap ((T : Int) - (X : Int)) = (at_ : Int) := by rw [IntWalk.i64_in _ (by omega)]; omega
        have a0 : (0 : Int) ≤ (at_ : Int) := by omega
        have a1 : (at_ : Int) ≤ (T : Int) := by omega
        have a2 : (T : Int) ≤ (c : Int) := by omega
        have a3 : T - at_ = X := by omega
        have HT := Lib.hid hTN; have ET := Lib.hid eT
        clear h3 eT hTN
        go_enter Tryd.func60, Tryd.ntmps60
        go_upto_region 3 with fail
        go_quiet (fail)
        obtain ⟨w3, e3⟩ : ∃ x, x = World.drewN w nq := ⟨_, rfl⟩
        have hBd : Below w.heap.size w w3 := e3 ▸ below_drewN (Below.refl _ _) _
        rw [← e3]
        have HS3 := Lib.hid (HS.out.later hBd)
        have BU3 := Lib.hid (BU.out.trans (But.of hBd HS.out.lt))
        clear e3 hBd HS s0 s1 s2 f1 f2 Sl BU
        have s0 := HS3.out.at 0 _ rfl; have s1 := HS3.out.at 1 _ rfl; have s2 := HS3.out.at 2 _ rfl
        have f1 := HS3.out.ok 1 (by simp); have f2 := HS3.out.ok 2 (by simp); have Sl := HS3.out.lt
        go_upto_region 8 with fail
        obtain ⟨w4, e3⟩ : ∃ x, x = w3.setCell ⟨S, 1, none⟩ (.int .i64 T) := ⟨_, rfl⟩
        have HS4 := Lib.hid (show Own S [.slice p N c, .int .i64 T, .int .i64 0] w4 from e3 ▸ (show Own S [.slice p N c, .int .i64 T, .int .i64 0] (w3.setCells S 1 [.int .i64 T]) from Own.part (o := 1) (vs := [.int .i64 T]) HS3.out (by simp)))
        have BU4 := Lib.hid (BU3.out.trans (show But S w3 w4 from e3 ▸ (show But S w3 (w3.setCells S 1 [.int .i64 T]) from But.store)))
        rw [← e3]
        clear e3 HS3 s0 s1 s2 f1 f2 Sl BU3
        have s0 := HS4.out.at 0 _ rfl; have s1 := HS4.out.at 1 _ rfl; have s2 := HS4.out.at 2 _ rfl
        have f1 := HS4.out.ok 1 (by simp); have f2 := HS4.out.ok 2 (by simp); have Sl := HS4.out.lt
        go_quiet (fail)
        obtain ⟨w7, e3⟩ : ∃ x, x = World.drewN w4 nq := ⟨_, rfl⟩
        have hBd : Below w4.heap.size w4 w7 := e3 ▸ below_drewN (Below.refl _ _) _
        rw [← e3]
        have HS7 := Lib.hid (HS4.out.later hBd)
        have BU7 := Lib.hid (BU4.out.trans (But.of hBd HS4.out.lt))
        clear e3 hBd HS4 s0 s1 s2 f1 f2 Sl BU4
        have BX := bytD_take (bytD_drop (hby.but BU7.out) hle hlc) (show X ≤ N - at_ by have := HT.out; have := ET.out; omega)
        obtain ⟨Q_, eQ⟩ : ∃ Q, slq p at_ c = Q := ⟨_, rfl⟩
        have eQ2 : (if c = at_ then p else Option.map (fun x => x.add at_) p) = Q_ := eQ
        rw [eQ2]
        rw [eQ] at BX
        clear eQ eQ2
        go_wp2_with (fail)
        go_ret
        refine ⟨Q_, c - at_, rfl, by have := HT.out; have := ET.out; omega, by omega, BX.byt, ⟨⟨p, c, ?_, hby.but BU7.out, hlc, hcm⟩, by have := HT.out; have := ET.out; omega⟩, BU7.out⟩
        rw [ET.out]
        exact HS7.out
  · have E : nxE N at_ er x 0 9223372036854775807 = er := by simp [nxE, h0]
    have A : nxA at_ x er = at_ := by simp [nxA, h0]
    have B : nxL x er = 0 := by simp [nxL, h0]
    rw [E, A, B]
    clear E A B
    go_enter Tryd.func60, Tryd.ntmps60
    go_upto_region 3 with fail
    go_quiet (fail)
    obtain ⟨w3, e3⟩ : ∃ x, x = World.drewN w nq := ⟨_, rfl⟩
    have hBd : Below w.heap.size w w3 := e3 ▸ below_drewN (Below.refl _ _) _
    rw [← e3]
    have HS3 := Lib.hid (HS.out.later hBd)
    have BU3 := Lib.hid (BU.out.trans (But.of hBd HS.out.lt))
    clear e3 hBd HS s0 s1 s2 f1 f2 Sl BU
    have s0 := HS3.out.at 0 _ rfl; have s1 := HS3.out.at 1 _ rfl; have s2 := HS3.out.at 2 _ rfl
    have f1 := HS3.out.ok 1 (by simp); have f2 := HS3.out.ok 2 (by simp); have Sl := HS3.out.lt
    go_wp2_with (fail)
    go_ret
    exact ⟨none, 0, rfl, Nat.le_refl _, by decide, .inl rfl, ⟨⟨p, c, HS3.out, hby.but BU3.out, hlc, hcm⟩, hle⟩, BU3.out⟩
end Go.Proofs.YtokfhhngnpbdkaaDoor

/- DO -/
namespace Go.Proofs.YtokfhhngnpbdkaaDoor
set_option linter.unusedVariables false
set_option maxRecDepth 2000
set_option linter.unusedSimpArgs false
open Go.RowKit
attribute [local go_sem] nums_length
theorem leN_cons (f : Nat → Int) (n : Nat) : leN f (n + 1) = f 0 + 256 * leN (fun j => f (j + 1)) n := by
  induction n with
  | zero => simp [leN, pw_zero]
  | succ n ih =>
    rw [leN, ih, leN, pw_succ]
    have : 256 * pw n * f (n + 1) = 256 * (pw n * f (n + 1)) := Int.mul_assoc _ _ _
    rw [this]
    omega
theorem nx_ref (N at_ : Nat) (er x y er1 : Int) (hy : max x 0 = y) (h1 : er1 = if er = 0 ∧ (x < 1 ∨ 8 < x) then 2 else er) (hx : x ≤ 9223372036854775807) :
    nxE N at_ er1 y 0 9223372036854775807 = nxE N at_ er x 1 8 ∧ nxA at_ y (nxE N at_ er x 1 8) = nxA at_ x (nxE N at_ er x 1 8) ∧ nxL y (nxE N at_ er x 1 8) = nxL x (nxE N at_ er x 1 8) := by
  by_cases h0 : er = 0
  · by_cases hb : x < 1 ∨ 8 < x
    · rw [if_pos ⟨h0, hb⟩] at h1
      subst h1
      simp [nxE, nxA, nxL, h0, hb]
    · rw [if_neg (fun h => hb h.2)] at h1
      subst h1
      have e : y = x := by omega
      subst e
      simp [nxE, h0, hb]
      omega
  · rw [if_neg (fun h => h0 h.1)] at h1
    subst h1
    simp [nxE, nxA, nxL, h0]

set_option maxHeartbeats 8000000 in
theorem RNum_any {S D N at_ : Nat} {er : Int} {F : Nat → Int} {w : World} (x : Int) (hx : x ≤ 9223372036854775807) (hF : ∀ j, j < N → inB (F j)) (h : RRd w S D F N at_ er) :
    Calls Tryd.prog 39 #[.pointer (some ⟨S, 0, none⟩), .int .i64 x] w fun e w' => e = .returned (.int .u64 (numF F at_ x (nxE N at_ er x 1 8))) ∧ RRd w' S D F N (nxA at_ x (nxE N at_ er x 1 8)) (nxE N at_ er x 1 8) ∧ But S w w' := by
  obtain ⟨y, hy⟩ : ∃ y, max x 0 = y := ⟨_, rfl⟩
  have hyx : y ≤ 9223372036854775807 := by omega
  have L8 := Lib.hid (nxL_8 N at_ er x)
  have FI := Lib.hid (nx_in N at_ er x F hF)
  unfold numF
  by_cases hb : er = 0 ∧ (x < 1 ∨ 8 < x)
  · have NR := nx_ref N at_ er x y 2 hy (by rw [if_pos hb]) hx
    have TK := Lib.hid (fun w h => RTake_any (S := S) (D := D) (N := N) (at_ := at_) (er := 2) (F := F) (w := w) y hyx h)
    rw [NR.1, NR.2.1, NR.2.2] at TK
    obtain ⟨p, c, hS, hby, hlc, hcm⟩ := h.ex
    have hle := h.le
    have s2 := hS.at 2 _ rfl
    have f2 := hS.ok 2 (by simp)
    have Sl := hS.lt
    obtain ⟨h0, hbb⟩ := hb
    subst h0
    have O1 : Own S [.slice p N c, .int .i64 at_, .int .i64 2] (w.setCell ⟨S, 2, none⟩ (.int .i64 2)) := Own.part (o := 2) (vs := [.int .i64 2]) hS (by simp)
    have B1 : But S w (w.setCell ⟨S, 2, none⟩ (.int .i64 2)) := But.store (o := 2) (vs := [.int .i64 2])
    have HR1 : Hid (RRd (w.setCell ⟨S, 2, none⟩ (.int .i64 2)) S D F N at_ 2) := Lib.hid ⟨⟨p, c, O1, hby.but B1, hlc, hcm⟩, hle⟩
    have BU1 := Lib.hid B1
    clear O1 B1 hS hby hlc hcm hle h NR hF
    generalize nxE N at_ 0 x 1 8 = E at *
    generalize nxL x E = L at *
    generalize nxA at_ x E = A_ at *
    by_cases hx1 : x < 1
    · clear hbb
      go_enter Tryd.func39, Tryd.ntmps39
      go_wp2_with (fail)
      go_at_call 60
      refine (TK.out _ HR1.out).mono ?_
      rintro e w5 ⟨p, c, rfl, hlc, hcm, hby, hrr, hbu⟩
      have BY := Lib.hid hby; have RR := Lib.hid hrr; have BU := Lib.hid (BU1.out.trans hbu)
      have LC := Lib.hid hlc; have CM := Lib.hid hcm
      clear hlc hcm hby hrr hbu TK HR1 BU1
      have wL : IntKind.i64.wrap ((L : Int) - 1) = (L : Int) - 1 := IntWalk.i64_in _ (by have := L8.out; omega)
      have wL2 : wrap64 ((L : Int) - 1) = (L : Int) - 1 := IntWalk.wrap64_in _ (by have := L8.out; omega)
      go_wp2_with (fail)
      go_loopw [6, 7] (fun nv iv wr => ∃ (k : Nat) (A i : Int), k ≤ L ∧ nv = .int .u64 A ∧ Hid (A = leN (fun j => F (at_ + (k + j))) (L - k)) ∧ iv = .int .i64 i ∧ Hid (i = (k : Int) - 1) ∧ w5 = wr) (fun _ iv _ => (intOf iv + 1).toNat)
      case atStart => exact ⟨L, 0, (L : Int) - 1, Nat.le_refl _, rfl, Lib.hid (by rw [Nat.sub_self]; rfl), rfl, Lib.hid rfl, rfl⟩
      case round =>
        obtain ⟨k, A, i, hk, rfl, HA, rfl, HI, rfl⟩ := hrel
        cases k with
        | zero =>
          obtain rfl : i = -1 := by have := HI.out; omega
          clear HI
          go_wp2_with (fail)
          go_ret
          refine ⟨?_, RR.out, BU.out⟩
          have e1 := HA.out
          simp only [Nat.zero_add, Nat.sub_zero] at e1
          rw [← e1]
          rfl
        | succ k =>
          obtain rfl : i = (k : Int) := by have := HI.out; omega
          clear HI
          obtain ⟨D, o, rfl, hH⟩ := BY.out.resolve_left (by omega)
          have hcell : w5.cell? ⟨D, o + k, none⟩ = some (.int .u8 (F (at_ + k))) := hH.cell k _ (nums_at _ _ (by omega))
          have hD := hH.lt
          have k0 : (0 : Int) ≤ (k : Int) := by omega
          have hkl : (k : Int) < (L : Int) := by omega
          have wk : IntKind.i64.wrap ((k : Int) - 1) = (k : Int) - 1 := IntWalk.i64_in _ (by have := L8.out; omega)
          have IX := FI.out k (by omega)
          have hA2 : F (at_ + k) + 256 * A = leN (fun j => F (at_ + (k + j))) (L - k) := by
            rw [HA.out, show L - k = (L - (k + 1)) + 1 by omega, leN_cons]
            simp only [Nat.add_zero]
            congr 1
            congr 1
            apply leN_congr
            intro j hj
            rw [show at_ + (k + 1 + j) = at_ + (k + (j + 1)) by omega]
          have bd := leN_lt (fun j => F (at_ + (k + j))) (L - k) (fun j hj => FI.out (k + j) (by omega))
          have bd0 := leN_lt (fun j => F (at_ + (k + 1 + j))) (L - (k + 1)) (fun j hj => FI.out (k + 1 + j) (by omega))
          rw [← HA.out] at bd0
          rw [← hA2] at bd
          have pl : pw (L - k) ≤ 18446744073709551616 := pw_le (by have := L8.out; omega)
          obtain ⟨x, ex⟩ : ∃ x, F (at_ + k) = x := ⟨_, rfl⟩
          rw [ex] at hcell IX hA2 bd
          unfold inB at IX
          have u1 : IntKind.u64.wrap (A * 256) = A * 256 := IntWalk.u64_in _ (by omega)
          have u2 : IntKind.u64.wrap x = x := IntWalk.u64_in _ (by omega)
          have u3 : IntKind.u64.wrap (A * 256 + x) = A * 256 + x := IntWalk.u64_in _ (by omega)
          have x0 : 0 ≤ x := IX.1
          have HA2 : Hid (A * 256 + x = leN (fun j => F (at_ + (k + j))) (L - k)) := Lib.hid (by rw [← hA2]; omega)
          have HK := Lib.hid hk
          clear hk hA2 bd bd0 pl ex HA IX hH
          go_wp2_with (fail)
          go_roundw
          case rel => (first | exact ⟨k, _, _, by have := HK.out; omega, rfl, HA2, rfl, Lib.hid rfl, (by first | rfl | trivial)⟩ | ((repeat apply Exists.intro); exact ⟨⟨k, _, _, by have := HK.out; omega, rfl, HA2, rfl, Lib.hid rfl, (by first | rfl | trivial)⟩, rfl⟩))
          case measure => first | (simp [intOf]; done) | (simp [intOf]; omega)
    · have hx8 : 8 < x := by omega
      clear hbb
      go_enter Tryd.func39, Tryd.ntmps39
      go_wp2_with (fail)
      go_at_call 60
      refine (TK.out _ HR1.out).mono ?_
      rintro e w5 ⟨p, c, rfl, hlc, hcm, hby, hrr, hbu⟩
      have BY := Lib.hid hby; have RR := Lib.hid hrr; have BU := Lib.hid (BU1.out.trans hbu)
      have LC := Lib.hid hlc; have CM := Lib.hid hcm
      clear hlc hcm hby hrr hbu TK HR1 BU1
      have wL : IntKind.i64.wrap ((L : Int) - 1) = (L : Int) - 1 := IntWalk.i64_in _ (by have := L8.out; omega)
      have wL2 : wrap64 ((L : Int) - 1) = (L : Int) - 1 := IntWalk.wrap64_in _ (by have := L8.out; omega)
      go_wp2_with (fail)
      go_loopw [6, 7] (fun nv iv wr => ∃ (k : Nat) (A i : Int), k ≤ L ∧ nv = .int .u64 A ∧ Hid (A = leN (fun j => F (at_ + (k + j))) (L - k)) ∧ iv = .int .i64 i ∧ Hid (i = (k : Int) - 1) ∧ w5 = wr) (fun _ iv _ => (intOf iv + 1).toNat)
      case atStart => exact ⟨L, 0, (L : Int) - 1, Nat.le_refl _, rfl, Lib.hid (by rw [Nat.sub_self]; rfl), rfl, Lib.hid rfl, rfl⟩
      case round =>
        obtain ⟨k, A, i, hk, rfl, HA, rfl, HI, rfl⟩ := hrel
        cases k with
        | zero =>
          obtain rfl : i = -1 := by have := HI.out; omega
          clear HI
          go_wp2_with (fail)
          go_ret
          refine ⟨?_, RR.out, BU.out⟩
          have e1 := HA.out
          simp only [Nat.zero_add, Nat.sub_zero] at e1
          rw [← e1]
          rfl
        | succ k =>
          obtain rfl : i = (k : Int) := by have := HI.out; omega
          clear HI
          obtain ⟨D, o, rfl, hH⟩ := BY.out.resolve_left (by omega)
          have hcell : w5.cell? ⟨D, o + k, none⟩ = some (.int .u8 (F (at_ + k))) := hH.cell k _ (nums_at _ _ (by omega))
          have hD := hH.lt
          have k0 : (0 : Int) ≤ (k : Int) := by omega
          have hkl : (k : Int) < (L : Int) := by omega
          have wk : IntKind.i64.wrap ((k : Int) - 1) = (k : Int) - 1 := IntWalk.i64_in _ (by have := L8.out; omega)
          have IX := FI.out k (by omega)
          have hA2 : F (at_ + k) + 256 * A = leN (fun j => F (at_ + (k + j))) (L - k) := by
            rw [HA.out, show L - k = (L - (k + 1)) + 1 by omega, leN_cons]
            simp only [Nat.add_zero]
            congr 1
            congr 1
            apply leN_congr
            intro j hj
            rw [show at_ + (k + 1 + j) = at_ + (k + (j + 1)) by omega]
          have bd := leN_lt (fun j => F (at_ + (k + j))) (L - k) (fun j hj => FI.out (k + j) (by omega))
          have bd0 := leN_lt (fun j => F (at_ + (k + 1 + j))) (L - (k + 1)) (fun j hj => FI.out (k + 1 + j) (by omega))
          rw [← HA.out] at bd0
          rw [← hA2] at bd
          have pl : pw (L - k) ≤ 18446744073709551616 := pw_le (by have := L8.out; omega)
          obtain ⟨x, ex⟩ : ∃ x, F (at_ + k) = x := ⟨_, rfl⟩
          rw [ex] at hcell IX hA2 bd
          unfold inB at IX
          have u1 : IntKind.u64.wrap (A * 256) = A * 256 := IntWalk.u64_in _ (by omega)
          have u2 : IntKind.u64.wrap x = x := IntWalk.u64_in _ (by omega)
          have u3 : IntKind.u64.wrap (A * 256 + x) = A * 256 + x := IntWalk.u64_in _ (by omega)
          have x0 : 0 ≤ x := IX.1
          have HA2 : Hid (A * 256 + x = leN (fun j => F (at_ + (k + j))) (L - k)) := Lib.hid (by rw [← hA2]; omega)
          have HK := Lib.hid hk
          clear hk hA2 bd bd0 pl ex HA IX hH
          go_wp2_with (fail)
          go_roundw
          case rel => (first | exact ⟨k, _, _, by have := HK.out; omega, rfl, HA2, rfl, Lib.hid rfl, (by first | rfl | trivial)⟩ | ((repeat apply Exists.intro); exact ⟨⟨k, _, _, by have := HK.out; omega, rfl, HA2, rfl, Lib.hid rfl, (by first | rfl | trivial)⟩, rfl⟩))
          case measure => first | (simp [intOf]; done) | (simp [intOf]; omega)
  · have NR := nx_ref N at_ er x y er hy (by rw [if_neg hb]) hx
    have TK := Lib.hid (fun w h => RTake_any (S := S) (D := D) (N := N) (at_ := at_) (er := er) (F := F) (w := w) y hyx h)
    rw [NR.1, NR.2.1, NR.2.2] at TK
    obtain ⟨p, c, hS, hby, hlc, hcm⟩ := h.ex
    have s2 := hS.at 2 _ rfl
    have Sl := hS.lt
    have HR1 := Lib.hid h
    have BU1 := Lib.hid (But.refl S w)
    clear hS hby hlc hcm h NR hF
    generalize nxE N at_ er x 1 8 = E at *
    generalize nxL x E = L at *
    generalize nxA at_ x E = A_ at *
    by_cases h0 : er = 0
    · subst h0
      have hx1 : ¬x < 1 := by omega
      have hx8 : ¬8 < x := by omega
      clear hb
      go_enter Tryd.func39, Tryd.ntmps39
      go_wp2_with (fail)
      go_at_call 60
      refine (TK.out _ HR1.out).mono ?_
      rintro e w5 ⟨p, c, rfl, hlc, hcm, hby, hrr, hbu⟩
      have BY := Lib.hid hby; have RR := Lib.hid hrr; have BU := Lib.hid (BU1.out.trans hbu)
      have LC := Lib.hid hlc; have CM := Lib.hid hcm
      clear hlc hcm hby hrr hbu TK HR1 BU1
      have wL : IntKind.i64.wrap ((L : Int) - 1) = (L : Int) - 1 := IntWalk.i64_in _ (by have := L8.out; omega)
      have wL2 : wrap64 ((L : Int) - 1) = (L : Int) - 1 := IntWalk.wrap64_in _ (by have := L8.out; omega)
      go_wp2_with (fail)
      go_loopw [6, 7] (fun nv iv wr => ∃ (k : Nat) (A i : Int), k ≤ L ∧ nv = .int .u64 A ∧ Hid (A = leN (fun j => F (at_ + (k + j))) (L - k)) ∧ iv = .int .i64 i ∧ Hid (i = (k : Int) - 1) ∧ w5 = wr) (fun _ iv _ => (intOf iv + 1).toNat)
      case atStart => exact ⟨L, 0, (L : Int) - 1, Nat.le_refl _, rfl, Lib.hid (by rw [Nat.sub_self]; rfl), rfl, Lib.hid rfl, rfl⟩
      case round =>
        obtain ⟨k, A, i, hk, rfl, HA, rfl, HI, rfl⟩ := hrel
        cases k with
        | zero =>
          obtain rfl : i = -1 := by have := HI.out; omega
          clear HI
          go_wp2_with (fail)
          go_ret
          refine ⟨?_, RR.out, BU.out⟩
          have e1 := HA.out
          simp only [Nat.zero_add, Nat.sub_zero] at e1
          rw [← e1]
          rfl
        | succ k =>
          obtain rfl : i = (k : Int) := by have := HI.out; omega
          clear HI
          obtain ⟨D, o, rfl, hH⟩ := BY.out.resolve_left (by omega)
          have hcell : w5.cell? ⟨D, o + k, none⟩ = some (.int .u8 (F (at_ + k))) := hH.cell k _ (nums_at _ _ (by omega))
          have hD := hH.lt
          have k0 : (0 : Int) ≤ (k : Int) := by omega
          have hkl : (k : Int) < (L : Int) := by omega
          have wk : IntKind.i64.wrap ((k : Int) - 1) = (k : Int) - 1 := IntWalk.i64_in _ (by have := L8.out; omega)
          have IX := FI.out k (by omega)
          have hA2 : F (at_ + k) + 256 * A = leN (fun j => F (at_ + (k + j))) (L - k) := by
            rw [HA.out, show L - k = (L - (k + 1)) + 1 by omega, leN_cons]
            simp only [Nat.add_zero]
            congr 1
            congr 1
            apply leN_congr
            intro j hj
            rw [show at_ + (k + 1 + j) = at_ + (k + (j + 1)) by omega]
          have bd := leN_lt (fun j => F (at_ + (k + j))) (L - k) (fun j hj => FI.out (k + j) (by omega))
          have bd0 := leN_lt (fun j => F (at_ + (k + 1 + j))) (L - (k + 1)) (fun j hj => FI.out (k + 1 + j) (by omega))
          rw [← HA.out] at bd0
          rw [← hA2] at bd
          have pl : pw (L - k) ≤ 18446744073709551616 := pw_le (by have := L8.out; omega)
          obtain ⟨x, ex⟩ : ∃ x, F (at_ + k) = x := ⟨_, rfl⟩
          rw [ex] at hcell IX hA2 bd
          unfold inB at IX
          have u1 : IntKind.u64.wrap (A * 256) = A * 256 := IntWalk.u64_in _ (by omega)
          have u2 : IntKind.u64.wrap x = x := IntWalk.u64_in _ (by omega)
          have u3 : IntKind.u64.wrap (A * 256 + x) = A * 256 + x := IntWalk.u64_in _ (by omega)
          have x0 : 0 ≤ x := IX.1
          have HA2 : Hid (A * 256 + x = leN (fun j => F (at_ + (k + j))) (L - k)) := Lib.hid (by rw [← hA2]; omega)
          have HK := Lib.hid hk
          clear hk hA2 bd bd0 pl ex HA IX hH
          go_wp2_with (fail)
          go_roundw
          case rel => (first | exact ⟨k, _, _, by have := HK.out; omega, rfl, HA2, rfl, Lib.hid rfl, (by first | rfl | trivial)⟩ | ((repeat apply Exists.intro); exact ⟨⟨k, _, _, by have := HK.out; omega, rfl, HA2, rfl, Lib.hid rfl, (by first | rfl | trivial)⟩, rfl⟩))
          case measure => first | (simp [intOf]; done) | (simp [intOf]; omega)
    · clear hb
      go_enter Tryd.func39, Tryd.ntmps39
      go_wp2_with (fail)
      go_at_call 60
      refine (TK.out _ HR1.out).mono ?_
      rintro e w5 ⟨p, c, rfl, hlc, hcm, hby, hrr, hbu⟩
      have BY := Lib.hid hby; have RR := Lib.hid hrr; have BU := Lib.hid (BU1.out.trans hbu)
      have LC := Lib.hid hlc; have CM := Lib.hid hcm
      clear hlc hcm hby hrr hbu TK HR1 BU1
      have wL : IntKind.i64.wrap ((L : Int) - 1) = (L : Int) - 1 := IntWalk.i64_in _ (by have := L8.out; omega)
      have wL2 : wrap64 ((L : Int) - 1) = (L : Int) - 1 := IntWalk.wrap64_in _ (by have := L8.out; omega)
      go_wp2_with (fail)
      go_loopw [6, 7] (fun nv iv wr => ∃ (k : Nat) (A i : Int), k ≤ L ∧ nv = .int .u64 A ∧ Hid (A = leN (fun j => F (at_ + (k + j))) (L - k)) ∧ iv = .int .i64 i ∧ Hid (i = (k : Int) - 1) ∧ w5 = wr) (fun _ iv _ => (intOf iv + 1).toNat)
      case atStart => exact ⟨L, 0, (L : Int) - 1, Nat.le_refl _, rfl, Lib.hid (by rw [Nat.sub_self]; rfl), rfl, Lib.hid rfl, rfl⟩
      case round =>
        obtain ⟨k, A, i, hk, rfl, HA, rfl, HI, rfl⟩ := hrel
        cases k with
        | zero =>
          obtain rfl : i = -1 := by have := HI.out; omega
          clear HI
          go_wp2_with (fail)
          go_ret
          refine ⟨?_, RR.out, BU.out⟩
          have e1 := HA.out
          simp only [Nat.zero_add, Nat.sub_zero] at e1
          rw [← e1]
          rfl
        | succ k =>
          obtain rfl : i = (k : Int) := by have := HI.out; omega
          clear HI
          obtain ⟨D, o, rfl, hH⟩ := BY.out.resolve_left (by omega)
          have hcell : w5.cell? ⟨D, o + k, none⟩ = some (.int .u8 (F (at_ + k))) := hH.cell k _ (nums_at _ _ (by omega))
          have hD := hH.lt
          have k0 : (0 : Int) ≤ (k : Int) := by omega
          have hkl : (k : Int) < (L : Int) := by omega
          have wk : IntKind.i64.wrap ((k : Int) - 1) = (k : Int) - 1 := IntWalk.i64_in _ (by have := L8.out; omega)
          have IX := FI.out k (by omega)
          have hA2 : F (at_ + k) + 256 * A = leN (fun j => F (at_ + (k + j))) (L - k) := by
            rw [HA.out, show L - k = (L - (k + 1)) + 1 by omega, leN_cons]
            simp only [Nat.add_zero]
            congr 1
            congr 1
            apply leN_congr
            intro j hj
            rw [show at_ + (k + 1 + j) = at_ + (k + (j + 1)) by omega]
          have bd := leN_lt (fun j => F (at_ + (k + j))) (L - k) (fun j hj => FI.out (k + j) (by omega))
          have bd0 := leN_lt (fun j => F (at_ + (k + 1 + j))) (L - (k + 1)) (fun j hj => FI.out (k + 1 + j) (by omega))
          rw [← HA.out] at bd0
          rw [← hA2] at bd
          have pl : pw (L - k) ≤ 18446744073709551616 := pw_le (by have := L8.out; omega)
          obtain ⟨x, ex⟩ : ∃ x, F (at_ + k) = x := ⟨_, rfl⟩
          rw [ex] at hcell IX hA2 bd
          unfold inB at IX
          have u1 : IntKind.u64.wrap (A * 256) = A * 256 := IntWalk.u64_in _ (by omega)
          have u2 : IntKind.u64.wrap x = x := IntWalk.u64_in _ (by omega)
          have u3 : IntKind.u64.wrap (A * 256 + x) = A * 256 + x := IntWalk.u64_in _ (by omega)
          have x0 : 0 ≤ x := IX.1
          have HA2 : Hid (A * 256 + x = leN (fun j => F (at_ + (k + j))) (L - k)) := Lib.hid (by rw [← hA2]; omega)
          have HK := Lib.hid hk
          clear hk hA2 bd bd0 pl ex HA IX hH
          go_wp2_with (fail)
          go_roundw
          case rel => (first | exact ⟨k, _, _, by have := HK.out; omega, rfl, HA2, rfl, Lib.hid rfl, (by first | rfl | trivial)⟩ | ((repeat apply Exists.intro); exact ⟨⟨k, _, _, by have := HK.out; omega, rfl, HA2, rfl, Lib.hid rfl, (by first | rfl | trivial)⟩, rfl⟩))
          case measure => first | (simp [intOf]; done) | (simp [intOf]; omega)
end Go.Proofs.YtokfhhngnpbdkaaDoor

/- DQ -/
namespace Go.Proofs.YtokfhhngnpbdkaaDoor
set_option linter.unusedVariables false
set_option maxRecDepth 2000
set_option linter.unusedSimpArgs false
open Go.RowKit
attribute [local go_sem] nums_length

set_option maxHeartbeats 8000000 in
theorem RInt_any {S D N at_ : Nat} {er : Int} {F : Nat → Int} {w : World} (x : Int) (hx : x ≤ 9223372036854775807) (hF : ∀ j, j < N → inB (F j)) (h : RRd w S D F N at_ er) :
    Calls Tryd.prog 61 #[.pointer (some ⟨S, 0, none⟩), .int .i64 x] w fun e w' => e = .returned (.int .i64 (intF F at_ x (nxE N at_ er x 1 8))) ∧ RRd w' S D F N (nxA at_ x (nxE N at_ er x 1 8)) (nxE N at_ er x 1 8) ∧ But S w w' := by
  have NU := Lib.hid (RNum_any x hx hF h)
  have XB := fun h => nxL_le N at_ er x h
  have V := leN_lt (fun j => F (at_ + j)) _ (nx_in N at_ er x F hF)
  unfold intF numF at *
  clear h hF
  generalize nxE N at_ er x 1 8 = E at *
  generalize nxA at_ x E = A_ at *
  by_cases hE : E = 0
  · subst hE
    have xb := XB rfl
    obtain ⟨W, rfl⟩ : ∃ W : Nat, x = (W : Int) := ⟨x.toNat, by omega⟩
    have eL : nxL (W : Int) 0 = W := by simp [nxL]
    rw [eL] at NU V ⊢
    generalize leN (fun j => F (at_ + j)) W = v at *
    have h1 : 1 ≤ W := by omega
    have h8 : W ≤ 8 := by omega
    have ev := pw_even h1
    have pp := pw_pos W
    have pl := pw_le h8
    obtain ⟨M, eM⟩ : ∃ M, pw W - 1 = M := ⟨_, rfl⟩
    obtain ⟨H, eH⟩ : ∃ H, M / 2 = H := ⟨_, rfl⟩
    have MO := Lib.hid (fun w => most_any W h8 w)
    rw [eM] at MO
    have t1 : M.tdiv 2 = H := by rw [Int.tdiv_eq_ediv_of_nonneg (by omega)]; exact eH
    have t2 : IntKind.u64.wrap H = H := IntWalk.u64_in _ (by omega)
    by_cases hv : H < v
    · have e1 : sgn v W = v - pw W := by unfold sgn; rw [if_pos (by omega)]
      rw [e1]
      obtain ⟨d, ed⟩ : ∃ d, M - v = d := ⟨_, rfl⟩
      have t3 : IntKind.u64.wrap d = d := IntWalk.u64_in _ (by omega)
      have t4 : IntKind.i64.wrap d = d := IntWalk.i64_in _ (by omega)
      have t5 : IntKind.i64.wrap (-d) = -d := IntWalk.i64_in _ (by omega)
      have t6 : IntKind.i64.wrap (-d - 1) = v - pw W := by rw [IntWalk.i64_in _ (by omega)]; omega
      clear xb XB V ev pp pl eM eH e1 h1 h8 eL
      go_enter Tryd.func61, Tryd.ntmps61
      go_wp2_with (fail)
      go_at_call 39
      refine (NU.out).mono ?_
      rintro e w1 ⟨rfl, hr, hb⟩
      have RR := Lib.hid hr; have BU := Lib.hid hb
      obtain ⟨p, c, hS, _⟩ := hr.ex
      have s2 := hS.at 2 _ rfl
      have Sl := hS.lt
      clear hS hr hb NU
      go_wp2_with (fail)
      go_at_call 62
      refine (MO.out _).mono ?_
      rintro e w2 ⟨rfl, hw⟩
      obtain rfl : w1 = w2 := hw.symm
      go_wp2_with (fail)
      go_at_call 62
      refine (MO.out _).mono ?_
      rintro e w2 ⟨rfl, hw⟩
      obtain rfl : w1 = w2 := hw.symm
      go_wp2_with (fail)
      go_ret
      exact ⟨rfl, RR.out, BU.out⟩
    · have e1 : sgn v W = v := by unfold sgn; rw [if_neg (by omega)]
      rw [e1]
      have t3 : IntKind.i64.wrap v = v := IntWalk.i64_in _ (by omega)
      clear xb XB V ev pp pl eM eH e1 h1 h8 eL
      go_enter Tryd.func61, Tryd.ntmps61
      go_wp2_with (fail)
      go_at_call 39
      refine (NU.out).mono ?_
      rintro e w1 ⟨rfl, hr, hb⟩
      have RR := Lib.hid hr; have BU := Lib.hid hb
      obtain ⟨p, c, hS, _⟩ := hr.ex
      have s2 := hS.at 2 _ rfl
      have Sl := hS.lt
      clear hS hr hb NU
      go_wp2_with (fail)
      go_at_call 62
      refine (MO.out _).mono ?_
      rintro e w2 ⟨rfl, hw⟩
      obtain rfl : w1 = w2 := hw.symm
      go_wp2_with (fail)
      go_ret
      exact ⟨rfl, RR.out, BU.out⟩
  · have eL : nxL x E = 0 := by simp [nxL, hE]
    rw [eL] at NU ⊢
    have e1 : sgn (leN (fun j => F (at_ + j)) 0) 0 = 0 := rfl
    rw [e1]
    clear XB V eL e1
    go_enter Tryd.func61, Tryd.ntmps61
    go_wp2_with (fail)
    go_at_call 39
    refine (NU.out).mono ?_
    rintro e w1 ⟨rfl, hr, hb⟩
    have RR := Lib.hid hr; have BU := Lib.hid hb
    obtain ⟨p, c, hS, _⟩ := hr.ex
    have s2 := hS.at 2 _ rfl
    have Sl := hS.lt
    clear hS hr hb NU
    go_wp2_with (fail)
    go_ret
    exact ⟨rfl, RR.out, BU.out⟩
theorem REnd_any {S D N at_ : Nat} {er : Int} {F : Nat → Int} {w : World} (h : RRd w S D F N at_ er) : Calls Tryd.prog 41 #[.pointer (some ⟨S, 0, none⟩)] w fun e w' => e = .returned (.int .i64 (endE N at_ er)) ∧ ∃ m, w' = w.drewN m := by
  obtain ⟨p, c, hS, hby, hlc, hcm⟩ := h.ex
  have HS := Lib.hid hS
  have s0 := HS.out.at 0 _ rfl; have s1 := HS.out.at 1 _ rfl; have s2 := HS.out.at 2 _ rfl
  have f1 := HS.out.ok 1 (by simp); have f2 := HS.out.ok 2 (by simp); have Sl := HS.out.lt
  by_cases h0 : er = 0
  · subst h0
    by_cases hn : at_ < N
    · have e1 : endE N at_ 0 = 5 := by simp [endE, hn]
      have hni : (at_ : Int) < (N : Int) := by omega
      rw [e1]
      clear hS h hby hlc hcm e1
      go_enter Tryd.func41, Tryd.ntmps41
      go_wp2_with (fail)
      go_quiet (fail)
      go_wp2_with (fail)
      go_ret
      exact ⟨rfl, _, rfl⟩
    · have e1 : endE N at_ 0 = 0 := by simp [endE, hn]
      have hni : ¬(at_ : Int) < (N : Int) := by omega
      rw [e1]
      clear hS h hby hlc hcm e1
      go_enter Tryd.func41, Tryd.ntmps41
      go_wp2_with (fail)
      go_quiet (fail)
      go_wp2_with (fail)
      go_ret
      exact ⟨rfl, _, rfl⟩
  · have e1 : endE N at_ er = er := by simp [endE, h0]
    rw [e1]
    clear hS h hby hlc hcm e1
    go_enter Tryd.func41, Tryd.ntmps41
    go_wp2_with (fail)
    go_quiet (fail)
    go_wp2_with (fail)
    go_ret
    exact ⟨rfl, _, rfl⟩
end Go.Proofs.YtokfhhngnpbdkaaDoor

/- DP -/
namespace Go.Proofs.YtokfhhngnpbdkaaDoor
set_option linter.unusedVariables false
set_option maxRecDepth 2000
set_option linter.unusedSimpArgs false
open Go.ChangeShapes Go.WideShapes Go.ChangeAt Go.RowKit Go.Joins Go.Deep
def isQ (cs : List Value) : Prop := ∃ z : Int, cs = [.int .u64 z] ∧ (0 ≤ z ∧ z ≤ 18446744073709551615)
def isI (cs : List Value) : Prop := ∃ z : Int, cs = [.int .i64 z] ∧ (-9223372036854775808 ≤ z ∧ z ≤ 9223372036854775807)
end Go.Proofs.YtokfhhngnpbdkaaDoor

