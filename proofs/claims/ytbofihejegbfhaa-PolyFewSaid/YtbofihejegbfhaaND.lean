/- poly.times. -/
import Derived.Test.YtbofihejegbfhaaNC
namespace Go.Proofs.Ytbofihejegbfhaa
set_option linter.unusedVariables false
set_option maxRecDepth 2000
set_option linter.unusedSimpArgs false
open Go.RowKit
theorem calls_stay {P : Program} {f : FuncId} {ar : Array Value} {w : World} {v : Value} (h : Calls P f ar w fun e w' => e = .returned v ∧ w = w') : Calls P f ar w fun e w' => e = .returned v ∧ Below w.heap.size w w' :=
  h.mono fun _ _ h => ⟨h.1, h.2 ▸ Below.refl _ _⟩
theorem index_num (f : Nat → Int) (k : Nat) (hk : k < 4) (w : World) : (Instr.index 59 (.agg (nums .u64 f 4).toArray) (.int .i64 k)).run Try.prog w = .ok (.int .u64 (f k)) w := match k, hk with
  | 0, _ => by kernel_rfl
  | 1, _ => by kernel_rfl
  | 2, _ => by kernel_rfl
  | 3, _ => by kernel_rfl
/-- what is carried to the limb i + j of P + A b 2^(64 i), of A's first j limbs -/
def carT (P A b i j : Nat) : Nat := (P % 2 ^ (64 * (i + j)) + A % 2 ^ (64 * j) * b * 2 ^ (64 * i)) / 2 ^ (64 * (i + j))
theorem carT0 (P A b i : Nat) : carT P A b i 0 = 0 := by
  unfold carT
  simp only [Nat.mul_zero, Nat.pow_zero, Nat.mod_one, Nat.zero_mul, Nat.add_zero]
  exact Nat.div_eq_of_lt (Nat.mod_lt _ (Nat.two_pow_pos _))
theorem carT_bd (P A b i j : Nat) (hb : b < 18446744073709551616) : inU (carT P A b i j : Nat) := by
  have : carT P A b i j < 18446744073709551616 := by
    unfold carT
    rw [Nat.mul_add, Nat.pow_add]
    have hm : 0 < 2 ^ (64 * i) := Nat.two_pow_pos _
    have hn : 0 < 2 ^ (64 * j) := Nat.two_pow_pos _
    generalize 2 ^ (64 * i) = m at *
    generalize 2 ^ (64 * j) = n at *
    have hM : 0 < m * n := Nat.mul_pos hm hn
    refine Nat.div_lt_of_lt_mul ?_
    have h1 := Nat.mod_lt P hM
    have h2 : A % n * b * m ≤ (m * n) * b := by
      have : A % n ≤ n := Nat.le_of_lt (Nat.mod_lt A hn)
      calc A % n * b * m ≤ n * b * m := Nat.mul_le_mul_right _ (Nat.mul_le_mul_right _ this)
        _ = (m * n) * b := by rw [Nat.mul_comm (n * b) m, Nat.mul_assoc]
    have h3 : (m * n) * (b + 1) ≤ (m * n) * 18446744073709551616 := Nat.mul_le_mul_left _ hb
    rw [Nat.mul_succ] at h3
    omega
  unfold inU; omega
theorem times_next (P A b i j : Nat) :
    l64 (limb P (i + j) + limb A j * (b : Int) + (carT P A b i j : Nat)) = limb (P + A * b * 2 ^ (64 * i)) (i + j) ∧
    h64 (limb P (i + j) + limb A j * (b : Int) + (carT P A b i j : Nat)) = (carT P A b i (j + 1) : Nat) := by
  unfold l64 h64 limb carT
  have hm : 0 < 2 ^ (64 * i) := Nat.two_pow_pos _
  have hn : 0 < 2 ^ (64 * j) := Nat.two_pow_pos _
  have q1 : 2 ^ (64 * (i + j)) = 2 ^ (64 * i) * 2 ^ (64 * j) := by rw [← Nat.pow_add, Nat.mul_add]
  have q2 : 2 ^ (64 * (i + (j + 1))) = 2 ^ (64 * i) * 2 ^ (64 * j) * 18446744073709551616 := by rw [show i + (j + 1) = (i + j) + 1 by omega, pw64, q1]
  rw [q2, q1, pw64 j]
  clear q1 q2
  generalize 2 ^ (64 * i) = m at *
  generalize 2 ^ (64 * j) = n at *
  have hM : 0 < m * n := Nat.mul_pos hm hn
  have eP := Nat.div_add_mod P (m * n)
  have eA := Nat.div_add_mod A n
  have eAq := Nat.div_add_mod (A / n) 18446744073709551616
  have g1 : P + A * b * m = (P % (m * n) + A % n * b * m) + (m * n) * (P / (m * n) + A / n * b) := by
    have : A * b * m = A % n * b * m + (m * n) * (A / n * b) := by
      conv => lhs; rw [← eA]
      grind
    rw [this, Nat.mul_add]; omega
  have g2 : P % (m * n * 18446744073709551616) + A % (n * 18446744073709551616) * b * m = (P % (m * n) + A % n * b * m) + (m * n) * (P / (m * n) % 18446744073709551616 + A / n % 18446744073709551616 * b) := by
    rw [nat_mod_mul P (m * n), nat_mod_mul A n]
    grind
  have c1 : (P + A * b * m) / (m * n) = (P % (m * n) + A % n * b * m) / (m * n) + (P / (m * n) + A / n * b) := by
    rw [g1, Nat.add_mul_div_left _ _ hM]
  rw [g2, ← Nat.div_div_eq_div_mul _ (m * n) 18446744073709551616, Nat.add_mul_div_left _ _ hM, c1]
  have g3 : A / n * b = 18446744073709551616 * (A / n / 18446744073709551616 * b) + A / n % 18446744073709551616 * b := by
    conv => lhs; rw [← eAq]
    grind
  rw [g3]
  have e0 : ((A / n % 18446744073709551616 : Nat) : Int) * (b : Int) = ((A / n % 18446744073709551616 * b : Nat) : Int) := by rw [Int.natCast_mul]
  rw [e0]
  generalize A / n % 18446744073709551616 * b = u at *
  generalize A / n / 18446744073709551616 * b = v at *
  generalize (P % (m * n) + A % n * b * m) / (m * n) = q at *
  generalize P / (m * n) = p at *
  constructor <;> omega
theorem mixL_eq (q : IntKind) (F G : Nat → Int) (k n : Nat) (h : ∀ j, j < k → j < n → F j = G j) : nums q (mixL F G k) n = nums q G n := nums_congr _ fun j hj => by
  unfold mixL
  by_cases e : j < k
  · rw [if_pos e, h j e hj]
  · rw [if_neg e]
/-- below the place where something is added nothing turns -/
theorem limb_low (P X i j : Nat) (h : j < i) : limb (P + X * 2 ^ (64 * i)) j = limb P j := by
  unfold limb
  have : 2 ^ (64 * i) = 2 ^ (64 * j) * 18446744073709551616 * 2 ^ (64 * (i - j - 1)) := by
    rw [show (18446744073709551616 : Nat) = 2 ^ 64 from rfl, ← Nat.pow_add, ← Nat.pow_add]; congr 1; omega
  rw [this]
  have hM : 0 < 2 ^ (64 * j) := Nat.two_pow_pos _
  generalize 2 ^ (64 * j) = M at *
  generalize 2 ^ (64 * (i - j - 1)) = t
  rw [show X * (M * 18446744073709551616 * t) = M * (18446744073709551616 * (X * t)) by grind, Nat.add_mul_div_left _ _ hM, Nat.add_mul_mod_self_left]
theorem limb_of (B i : Nat) : limb B i = ((B / 2 ^ (64 * i) % 18446744073709551616 : Nat) : Int) := rfl
theorem prod_next (A B i : Nat) : A * (B % 2 ^ (64 * i)) + A * (B / 2 ^ (64 * i) % 18446744073709551616) * 2 ^ (64 * i) = A * (B % 2 ^ (64 * (i + 1))) := by
  rw [pw64, nat_mod_mul]
  grind

set_option maxHeartbeats 8000000 in
theorem times_any (A B : Nat) (hB : B < 2 ^ 256) (w : World) :
    Calls Try.prog 27 #[(.agg (nums .u64 (limb A) 4).toArray), (.agg (nums .u64 (limb B) 4).toArray)] w fun e w' => e = .returned (.agg (nums .u64 (limb (A * B)) 4).toArray) ∧ Below w.heap.size w w' := by
  have BB := Lib.hid hB
  clear hB
  go_enter Try.func27, Try.ntmps27
  go_upto_region 2 with fail
  obtain ⟨W0, hW⟩ : ∃ W0, W0 = ((((w.alloc (.cells (nums .u64 (limb A) 4).toArray 59)).alloc (.cells (nums .u64 (limb B) 4).toArray 59)).alloc (.cells #[.int .u64 0, .int .u64 0, .int .u64 0, .int .u64 0] 59)).alloc (.cells #[.int .u64 0, .int .u64 0, .int .u64 0, .int .u64 0] 59)) := ⟨_, rfl⟩
  have hB0 : Below w.heap.size w W0 := hW ▸ (Below.al (Below.al (Below.al (Below.al (Below.refl _ _)))))
  have HX : Hid (Own w.heap.size (nums .u64 (limb A) 4) W0) := Lib.hid (hW ▸ (show Own w.heap.size (nums .u64 (limb A) 4) (w.alloc (.cells (nums .u64 (limb A) 4).toArray 59)) from Own.newAt (by simp)).alloc.alloc.alloc)
  have HY : Hid (Own (w.heap.size + 1) (nums .u64 (limb B) 4) W0) := Lib.hid (hW ▸ (show Own (w.heap.size + 1) (nums .u64 (limb B) 4) ((w.alloc (.cells (nums .u64 (limb A) 4).toArray 59)).alloc (.cells (nums .u64 (limb B) 4).toArray 59)) from Own.newAt (by simp)).alloc.alloc)
  have HR : Hid (Own ((w.heap.size + 1) + 1) (nums .u64 (fun _ => 0) 4) W0) := Lib.hid (hW ▸ (show Own ((w.heap.size + 1) + 1) (nums .u64 (fun _ => 0) 4) (((w.alloc (.cells (nums .u64 (limb A) 4).toArray 59)).alloc (.cells (nums .u64 (limb B) 4).toArray 59)).alloc (.cells #[.int .u64 0, .int .u64 0, .int .u64 0, .int .u64 0] 59)) from Own.newAt (by simp)).alloc)
  have HQ : Hid (Own (((w.heap.size + 1) + 1) + 1) (nums .u64 (fun _ => 0) 4) W0) := Lib.hid (hW ▸ (show Own (((w.heap.size + 1) + 1) + 1) (nums .u64 (fun _ => 0) 4) ((((w.alloc (.cells (nums .u64 (limb A) 4).toArray 59)).alloc (.cells (nums .u64 (limb B) 4).toArray 59)).alloc (.cells #[.int .u64 0, .int .u64 0, .int .u64 0, .int .u64 0] 59)).alloc (.cells #[.int .u64 0, .int .u64 0, .int .u64 0, .int .u64 0] 59)) from Own.newAt (by simp)))
  rw [← hW]
  clear hW
  obtain ⟨Q, eQ⟩ : ∃ X, X = (((w.heap.size + 1) + 1) + 1) := ⟨_, rfl⟩
  rw [← eQ] at HQ ⊢
  have Qw : w.heap.size ≤ Q := by omega
  obtain ⟨R, eR⟩ : ∃ X, X = ((w.heap.size + 1) + 1) := ⟨_, rfl⟩
  rw [← eR] at HR ⊢
  have Rw : w.heap.size ≤ R := by omega
  obtain ⟨Y, eY⟩ : ∃ X, X = (w.heap.size + 1) := ⟨_, rfl⟩
  rw [← eY] at HY ⊢
  have Yw : w.heap.size ≤ Y := by omega
  obtain ⟨X, eX⟩ : ∃ X, X = w.heap.size := ⟨_, rfl⟩
  rw [← eX] at HX ⊢
  have Xw : w.heap.size ≤ X := by omega
  have nXY : X ≠ Y := by omega
  have nYX : Y ≠ X := by omega
  have nXR : X ≠ R := by omega
  have nRX : R ≠ X := by omega
  have nXQ : X ≠ Q := by omega
  have nQX : Q ≠ X := by omega
  have nYR : Y ≠ R := by omega
  have nRY : R ≠ Y := by omega
  have nYQ : Y ≠ Q := by omega
  have nQY : Q ≠ Y := by omega
  have nRQ : R ≠ Q := by omega
  have nQR : Q ≠ R := by omega
  clear eX eY eR eQ
  refine wp_region_lit ?_
  refine wpList_load_mid rfl 59 _ rfl Y 0 rfl (nums .u64 (limb B) 4) _ HY.out.cell Try.underlying59 rfl (by kernel_rfl) ?_
  go_wp2_with (fail)
  go_loopw [11] (fun iv wr => ∃ (i : Nat), i ≤ 4 ∧ iv = .int .i64 i ∧ Hid (Below w.heap.size w wr) ∧ Hid (Own X (nums .u64 (limb A) 4) wr) ∧ Hid (Own Q (nums .u64 (limb (A * (B % 2 ^ (64 * i)))) 4) wr) ∧ Hid (Own R (nums .u64 (fun _ => 0) 4) wr)) (fun iv _ => (4 - (intOf iv).toNat))
  case atStart => exact ⟨0, by omega, rfl, Lib.hid hB0, HX, Lib.hid (by rw [show nums .u64 (limb (A * (B % 2 ^ (64 * 0)))) 4 = nums .u64 (fun _ => 0) 4 from nums_congr _ fun j _ => by simp [Nat.mod_one, limb]]; exact HQ.out), HR⟩
  case round =>
    clear HX HY HR HQ hB0
    obtain ⟨i, hi, rfl, HB, HX, HQ, HR⟩ := hrel
    by_cases hlt : i < 4
    · have ix := index_num (limb B) i hlt
      have i0 : (0 : Int) ≤ (i : Int) := by omega
      have i4 : (i : Int) < 4 := by omega
      have i63 : (i : Int) + 1 ≤ 9223372036854775807 := by omega
      have hp := prod_next A B i
      have eb := limb_of B i
      have hb : B / 2 ^ (64 * i) % 18446744073709551616 < 18446744073709551616 := Nat.mod_lt _ (by decide)
      rw [eb] at ix
      generalize B / 2 ^ (64 * i) % 18446744073709551616 = bi at *
      obtain ⟨P_, eP⟩ : ∃ P_, A * (B % 2 ^ (64 * i)) = P_ := ⟨_, rfl⟩
      rw [eP] at HQ hp
      have HP := Lib.hid hp
      have hB' := Lib.hid hb
      obtain ⟨m, em⟩ : ∃ m : Nat, m = 4 - i := ⟨_, rfl⟩
      have e1 : IntKind.i64.wrap (4 - (i : Int)) = (m : Int) := by rw [IntWalk.i64_in _ (by omega)]; omega
      have hm : i + m = 4 := by omega
      clear em eb eP hp hb hi
      go_wp2_with (fail)
      go_loopw [8, 17] (fun cv jv ws => ∃ (j : Nat), j ≤ m ∧ cv = .int .u64 ((carT P_ A bi i j : Nat) : Int) ∧ jv = .int .i64 j ∧ Hid (Below w.heap.size w ws) ∧ Hid (Own X (nums .u64 (limb A) 4) ws) ∧ Hid (Own Q (nums .u64 (mixL (limb (P_ + A * bi * 2 ^ (64 * i))) (limb P_) (i + j)) 4) ws) ∧ Hid (Own R (nums .u64 (fun _ => 0) 4) ws)) (fun _ jv _ => (m - (intOf jv).toNat))
      case atStart => exact ⟨0, by omega, by rw [carT0]; rfl, rfl, HB, HX, Lib.hid (by rw [mixL_eq _ _ _ _ _ (fun j hj _ => limb_low P_ (A * bi) i j (by omega))]; exact HQ.out), HR⟩
      case round =>
        clear HX HQ HR HB
        obtain ⟨j, hj, rfl, rfl, HB, HX, HQ, HR⟩ := hrel
        by_cases hjm : j < m
        · have hij : i + j < 4 := by omega
          have hj4 : j < 4 := by omega
          have tn := times_next P_ A bi i j
          have cb0 := carT_bd P_ A bi i j hB'.out
          have cb1 := carT_bd P_ A bi i (j + 1) hB'.out
          have SC := Lib.hid (fun w => step_any (limb P_ (i + j)) (limb A j) bi (carT P_ A bi i j : Nat) (in_limb _ _) (in_limb _ _) (by unfold inU; have := hB'.out; omega) cb0 w)
          rw [tn.1, tn.2] at SC
          have ME := Lib.hid (mixL_step .u64 (limb (P_ + A * bi * 2 ^ (64 * i))) (limb P_) (i + j) 4 _ rfl)
          clear tn cb0 cb1
          obtain ⟨x, ex⟩ : ∃ x, limb P_ (i + j) = x := ⟨_, rfl⟩
          obtain ⟨y, ey⟩ : ∃ y, limb A j = y := ⟨_, rfl⟩
          obtain ⟨z, ez⟩ : ∃ z, limb (P_ + A * bi * 2 ^ (64 * i)) (i + j) = z := ⟨_, rfl⟩
          obtain ⟨ca, ec⟩ : ∃ ca, ((carT P_ A bi i j : Nat) : Int) = ca := ⟨_, rfl⟩
          obtain ⟨cb, ed⟩ : ∃ cb, ((carT P_ A bi i (j + 1) : Nat) : Int) = cb := ⟨_, rfl⟩
          rw [ex, ey, ez, ec, ed] at SC
          rw [ez] at ME; rw [ec]
          have EX := Lib.hid ex; have EY := Lib.hid ey; have ED := Lib.hid ed
          have j0 : (0 : Int) ≤ (j : Int) := by omega
          have j4 : (j : Int) < 4 := by omega
          have jm : (j : Int) < (m : Int) := by omega
          have j63 : (j : Int) + 1 ≤ 9223372036854775807 := by omega
          obtain ⟨k, ek⟩ : ∃ k : Nat, i + j = k := ⟨_, rfl⟩
          have ew : IntKind.i64.wrap ((i : Int) + (j : Int)) = (k : Int) := by rw [IntWalk.i64_in _ (by omega)]; omega
          have ew' : (i : Int) + (j : Int) = (k : Int) := by omega
          rw [ek] at HQ ME EX hij
          have k0 : (0 : Int) ≤ (k : Int) := by omega
          have k4 : (k : Int) < 4 := by omega
          have wk : IntKind.i64.wrap (k : Int) = (k : Int) := IntWalk.i64_in _ (by omega)
          have EK := Lib.hid ek
          clear ex ey ez ec ed ek
          obtain ⟨E, eE⟩ : ∃ E, E = w := ⟨_, rfl⟩
          subst eE
          go_wp2_with (fail)
          refine wp_region_fun 20 (by kernel_rfl) (by kernel_rfl) rfl (fun s b => ⟨#[(.agg (nums .u64 (limb A) 4).toArray), (.agg (nums .u64 (limb B) 4).toArray), .pointer (some ⟨X, 0, none⟩), .pointer (some ⟨Y, 0, none⟩), .pointer (some ⟨R, 0, none⟩), .pointer (some ⟨Q, 0, none⟩), .int .i64 i, .int .u64 bi, s 8, .int .i64 j, (.agg (nums .u64 (limb B) 4).toArray), .int .i64 i, .bool true, .int .i64 i, .int .u64 bi, .int .i64 i, .int .i64 m, .int .i64 j, .bool true, .int .i64 j, s 20, s 21, s 22, s 23, s 24, s 25, s 26, s 27, s 28, s 29, s 30, s 31, s 32, s 33, s 34, s 35, s 36, s 37, u38, u39, undef], []⟩) (fun d s b w => (Below E.heap.size E w) ∧ (d 0 = true → s 21 = .int .i64 i) ∧ (d 1 = true → s 22 = .int .i64 j) ∧ (d 2 = true → s 23 = .int .i64 (k : Int)) ∧ (d 3 = true → s 24 = .int .i64 i) ∧ (d 4 = true → s 25 = .int .i64 j) ∧ (d 5 = true → s 26 = .int .i64 (k : Int)) ∧ (d 6 = true → s 27 = .pointer (some ⟨Q, k, none⟩)) ∧ (d 7 = true → s 28 = .int .u64 x) ∧ (d 8 = true → s 29 = .int .i64 j) ∧ (d 9 = true → s 30 = .pointer (some ⟨X, j, none⟩)) ∧ (d 10 = true → s 31 = .int .u64 y) ∧ (d 11 = true → s 32 = .int .u64 bi) ∧ (d 12 = true → s 33 = .int .u64 ca) ∧ (d 13 = true → s 34 = .tuple #[.int .u64 z, .int .u64 cb]) ∧ (d 14 = true → s 20 = .tuple #[.int .u64 z, .int .u64 cb]) ∧ (d 15 = true → s 35 = .int .u64 z) ∧ (d 16 = true → s 36 = .int .u64 cb) ∧ (d 17 = true → s 37 = .pointer (some ⟨Q, k, none⟩)) ∧ (d 18 = false → Own Q (nums .u64 (mixL (limb (P_ + A * bi * 2 ^ (64 * i))) (limb P_) k) 4) w) ∧ (d 18 = true → Own Q (nums .u64 (mixL (limb (P_ + A * bi * 2 ^ (64 * i))) (limb P_) (k + 1)) 4) w) ∧ (d 19 = true → s 8 = .int .u64 cb) ∧ (d 19 = false → s 8 = .int .u64 ca) ∧ (d 19 = true → d 12 = true) ∧ (d 18 = true → d 7 = true) ∧ (Own X (nums .u64 (limb A) 4) w) ∧ (Own R (nums .u64 (fun _ => 0) 4) w)) rfl ?h0w1 (?stw1 : StepsF _ _ _ _ 20 _ _ [0, 1, 2, 3, 4, 5, 6, 7, 8, 9, 10, 11, 12, 13, 14, 15, 16, 17, 18, 19]) ?dnw1
          case h0w1 => exact ⟨Below.drew HB.out, (fun h => nomatch h), (fun h => nomatch h), (fun h => nomatch h), (fun h => nomatch h), (fun h => nomatch h), (fun h => nomatch h), (fun h => nomatch h), (fun h => nomatch h), (fun h => nomatch h), (fun h => nomatch h), (fun h => nomatch h), (fun h => nomatch h), (fun h => nomatch h), (fun h => nomatch h), (fun h => nomatch h), (fun h => nomatch h), (fun h => nomatch h), (fun h => nomatch h), (fun _ => HQ.out.drew), (fun h => nomatch h), (fun h => nomatch h), (fun _ => rfl), (fun h => nomatch h), (fun h => nomatch h), HX.out.drew, HR.out.drew⟩
          case stw1 =>
            refine StepsF.cons (o := _) rfl (ws := []) (by kernel_rfl) (by decide) (fun d s b w hF hd hw K_ hK => ?_) ?_
            · have hB : Below E.heap.size E w := (p0_ hF.out)
              dsimp only
              go_simp
              exact hK.out (ups s 21 (.int .i64 i)) b _ ⟨hB, (fun _ => rfl), (p2_ hF.out), (p3_ hF.out), (p4_ hF.out), (p5_ hF.out), (p6_ hF.out), (p7_ hF.out), (p8_ hF.out), (p9_ hF.out), (p10_ hF.out), (p11_ hF.out), (p12_ hF.out), (p13_ hF.out), (p14_ hF.out), (p15_ hF.out), (p16_ hF.out), (p17_ hF.out), (p18_ hF.out), (p19_ hF.out), (p20_ hF.out), (p21_ hF.out), (p22_ hF.out), (p23_ hF.out), (p24_ hF.out), (p25_ hF.out), (q26_ hF.out)⟩
            refine StepsF.cons (o := _) rfl (ws := []) (by kernel_rfl) (by decide) (fun d s b w hF hd hw K_ hK => ?_) ?_
            · have hB : Below E.heap.size E w := (p0_ hF.out)
              dsimp only
              go_simp
              exact hK.out (ups s 22 (.int .i64 j)) b _ ⟨hB, (p1_ hF.out), (fun _ => rfl), (p3_ hF.out), (p4_ hF.out), (p5_ hF.out), (p6_ hF.out), (p7_ hF.out), (p8_ hF.out), (p9_ hF.out), (p10_ hF.out), (p11_ hF.out), (p12_ hF.out), (p13_ hF.out), (p14_ hF.out), (p15_ hF.out), (p16_ hF.out), (p17_ hF.out), (p18_ hF.out), (p19_ hF.out), (p20_ hF.out), (p21_ hF.out), (p22_ hF.out), (p23_ hF.out), (p24_ hF.out), (p25_ hF.out), (q26_ hF.out)⟩
            refine StepsF.cons (o := _) rfl (ws := [0, 1]) (by kernel_rfl) (by decide) (fun d s b w hF hd hw K_ hK => ?_) ?_
            · have hB : Below E.heap.size E w := (p0_ hF.out)
              have e0 : s 21 = .int .i64 i := (p1_ hF.out) (hw 0 (by decide))
              have e1 : s 22 = .int .i64 j := (p2_ hF.out) (hw 1 (by decide))
              dsimp only
              go_simp
              exact hK.out (ups (ups (ups s 21 (.int .i64 i)) 22 (.int .i64 j)) 23 (.int .i64 (k : Int))) b _ ⟨hB, (fun _ => rfl), (fun _ => rfl), (fun _ => rfl), (p4_ hF.out), (p5_ hF.out), (p6_ hF.out), (p7_ hF.out), (p8_ hF.out), (p9_ hF.out), (p10_ hF.out), (p11_ hF.out), (p12_ hF.out), (p13_ hF.out), (p14_ hF.out), (p15_ hF.out), (p16_ hF.out), (p17_ hF.out), (p18_ hF.out), (p19_ hF.out), (p20_ hF.out), (p21_ hF.out), (p22_ hF.out), (p23_ hF.out), (p24_ hF.out), (p25_ hF.out), (q26_ hF.out)⟩
            refine StepsF.cons (o := _) rfl (ws := []) (by kernel_rfl) (by decide) (fun d s b w hF hd hw K_ hK => ?_) ?_
            · have hB : Below E.heap.size E w := (p0_ hF.out)
              dsimp only
              go_simp
              exact hK.out (ups s 24 (.int .i64 i)) b _ ⟨hB, (p1_ hF.out), (p2_ hF.out), (p3_ hF.out), (fun _ => rfl), (p5_ hF.out), (p6_ hF.out), (p7_ hF.out), (p8_ hF.out), (p9_ hF.out), (p10_ hF.out), (p11_ hF.out), (p12_ hF.out), (p13_ hF.out), (p14_ hF.out), (p15_ hF.out), (p16_ hF.out), (p17_ hF.out), (p18_ hF.out), (p19_ hF.out), (p20_ hF.out), (p21_ hF.out), (p22_ hF.out), (p23_ hF.out), (p24_ hF.out), (p25_ hF.out), (q26_ hF.out)⟩
            refine StepsF.cons (o := _) rfl (ws := []) (by kernel_rfl) (by decide) (fun d s b w hF hd hw K_ hK => ?_) ?_
            · have hB : Below E.heap.size E w := (p0_ hF.out)
              dsimp only
              go_simp
              exact hK.out (ups s 25 (.int .i64 j)) b _ ⟨hB, (p1_ hF.out), (p2_ hF.out), (p3_ hF.out), (p4_ hF.out), (fun _ => rfl), (p6_ hF.out), (p7_ hF.out), (p8_ hF.out), (p9_ hF.out), (p10_ hF.out), (p11_ hF.out), (p12_ hF.out), (p13_ hF.out), (p14_ hF.out), (p15_ hF.out), (p16_ hF.out), (p17_ hF.out), (p18_ hF.out), (p19_ hF.out), (p20_ hF.out), (p21_ hF.out), (p22_ hF.out), (p23_ hF.out), (p24_ hF.out), (p25_ hF.out), (q26_ hF.out)⟩
            refine StepsF.cons (o := _) rfl (ws := [3, 4]) (by kernel_rfl) (by decide) (fun d s b w hF hd hw K_ hK => ?_) ?_
            · have hB : Below E.heap.size E w := (p0_ hF.out)
              have e3 : s 24 = .int .i64 i := (p4_ hF.out) (hw 3 (by decide))
              have e4 : s 25 = .int .i64 j := (p5_ hF.out) (hw 4 (by decide))
              dsimp only
              go_simp
              exact hK.out (ups (ups (ups s 24 (.int .i64 i)) 25 (.int .i64 j)) 26 (.int .i64 (k : Int))) b _ ⟨hB, (p1_ hF.out), (p2_ hF.out), (p3_ hF.out), (fun _ => rfl), (fun _ => rfl), (fun _ => rfl), (p7_ hF.out), (p8_ hF.out), (p9_ hF.out), (p10_ hF.out), (p11_ hF.out), (p12_ hF.out), (p13_ hF.out), (p14_ hF.out), (p15_ hF.out), (p16_ hF.out), (p17_ hF.out), (p18_ hF.out), (p19_ hF.out), (p20_ hF.out), (p21_ hF.out), (p22_ hF.out), (p23_ hF.out), (p24_ hF.out), (p25_ hF.out), (q26_ hF.out)⟩
            refine StepsF.cons (o := _) rfl (ws := [5]) (by kernel_rfl) (by decide) (fun d s b w hF hd hw K_ hK => ?_) ?_
            · have hB : Below E.heap.size E w := (p0_ hF.out)
              have e5 : s 26 = .int .i64 (k : Int) := (p6_ hF.out) (hw 5 (by decide))
              dsimp only
              go_simp
              exact hK.out (ups (ups s 26 (.int .i64 (k : Int))) 27 (.pointer (some ⟨Q, k, none⟩))) b _ ⟨hB, (p1_ hF.out), (p2_ hF.out), (p3_ hF.out), (p4_ hF.out), (p5_ hF.out), (fun _ => rfl), (fun _ => rfl), (p8_ hF.out), (p9_ hF.out), (p10_ hF.out), (p11_ hF.out), (p12_ hF.out), (p13_ hF.out), (p14_ hF.out), (p15_ hF.out), (p16_ hF.out), (p17_ hF.out), (p18_ hF.out), (p19_ hF.out), (p20_ hF.out), (p21_ hF.out), (p22_ hF.out), (p23_ hF.out), (p24_ hF.out), (p25_ hF.out), (q26_ hF.out)⟩
            refine StepsF.cons (o := _) rfl (ws := [6]) (by kernel_rfl) (by decide) (fun d s b w hF hd hw K_ hK => ?_) ?_
            · have hB : Below E.heap.size E w := (p0_ hF.out)
              have e6 : s 27 = .pointer (some ⟨Q, k, none⟩) := (p7_ hF.out) (hw 6 (by decide))
              dsimp only
              have cX := ((p19_ hF.out) (by cases e : d 18 with | false => rfl | true => exact absurd ((p24_ hF.out) e) (by simp [hd]))).at k _ (by rw [nums_at _ _ hij, mixL_at, EX.out])
              go_simp
              exact hK.out (ups (ups s 27 (.pointer (some ⟨Q, k, none⟩))) 28 (.int .u64 x)) b _ ⟨hB, (p1_ hF.out), (p2_ hF.out), (p3_ hF.out), (p4_ hF.out), (p5_ hF.out), (p6_ hF.out), (fun _ => rfl), (fun _ => rfl), (p9_ hF.out), (p10_ hF.out), (p11_ hF.out), (p12_ hF.out), (p13_ hF.out), (p14_ hF.out), (p15_ hF.out), (p16_ hF.out), (p17_ hF.out), (p18_ hF.out), (p19_ hF.out), (p20_ hF.out), (p21_ hF.out), (p22_ hF.out), (p23_ hF.out), (fun _ => rfl), (p25_ hF.out), (q26_ hF.out)⟩
            refine StepsF.cons (o := _) rfl (ws := []) (by kernel_rfl) (by decide) (fun d s b w hF hd hw K_ hK => ?_) ?_
            · have hB : Below E.heap.size E w := (p0_ hF.out)
              dsimp only
              go_simp
              exact hK.out (ups s 29 (.int .i64 j)) b _ ⟨hB, (p1_ hF.out), (p2_ hF.out), (p3_ hF.out), (p4_ hF.out), (p5_ hF.out), (p6_ hF.out), (p7_ hF.out), (p8_ hF.out), (fun _ => rfl), (p10_ hF.out), (p11_ hF.out), (p12_ hF.out), (p13_ hF.out), (p14_ hF.out), (p15_ hF.out), (p16_ hF.out), (p17_ hF.out), (p18_ hF.out), (p19_ hF.out), (p20_ hF.out), (p21_ hF.out), (p22_ hF.out), (p23_ hF.out), (p24_ hF.out), (p25_ hF.out), (q26_ hF.out)⟩
            refine StepsF.cons (o := _) rfl (ws := [8]) (by kernel_rfl) (by decide) (fun d s b w hF hd hw K_ hK => ?_) ?_
            · have hB : Below E.heap.size E w := (p0_ hF.out)
              have e8 : s 29 = .int .i64 j := (p9_ hF.out) (hw 8 (by decide))
              dsimp only
              go_simp
              exact hK.out (ups (ups s 29 (.int .i64 j)) 30 (.pointer (some ⟨X, j, none⟩))) b _ ⟨hB, (p1_ hF.out), (p2_ hF.out), (p3_ hF.out), (p4_ hF.out), (p5_ hF.out), (p6_ hF.out), (p7_ hF.out), (p8_ hF.out), (fun _ => rfl), (fun _ => rfl), (p11_ hF.out), (p12_ hF.out), (p13_ hF.out), (p14_ hF.out), (p15_ hF.out), (p16_ hF.out), (p17_ hF.out), (p18_ hF.out), (p19_ hF.out), (p20_ hF.out), (p21_ hF.out), (p22_ hF.out), (p23_ hF.out), (p24_ hF.out), (p25_ hF.out), (q26_ hF.out)⟩
            refine StepsF.cons (o := _) rfl (ws := [9]) (by kernel_rfl) (by decide) (fun d s b w hF hd hw K_ hK => ?_) ?_
            · have hB : Below E.heap.size E w := (p0_ hF.out)
              have e9 : s 30 = .pointer (some ⟨X, j, none⟩) := (p10_ hF.out) (hw 9 (by decide))
              dsimp only
              have cY := (p25_ hF.out).at j _ (by rw [nums_at _ _ hj4, EY.out])
              go_simp
              exact hK.out (ups (ups s 30 (.pointer (some ⟨X, j, none⟩))) 31 (.int .u64 y)) b _ ⟨hB, (p1_ hF.out), (p2_ hF.out), (p3_ hF.out), (p4_ hF.out), (p5_ hF.out), (p6_ hF.out), (p7_ hF.out), (p8_ hF.out), (p9_ hF.out), (fun _ => rfl), (fun _ => rfl), (p12_ hF.out), (p13_ hF.out), (p14_ hF.out), (p15_ hF.out), (p16_ hF.out), (p17_ hF.out), (p18_ hF.out), (p19_ hF.out), (p20_ hF.out), (p21_ hF.out), (p22_ hF.out), (p23_ hF.out), (p24_ hF.out), (p25_ hF.out), (q26_ hF.out)⟩
            refine StepsF.cons (o := _) rfl (ws := []) (by kernel_rfl) (by decide) (fun d s b w hF hd hw K_ hK => ?_) ?_
            · have hB : Below E.heap.size E w := (p0_ hF.out)
              dsimp only
              go_simp
              exact hK.out (ups s 32 (.int .u64 bi)) b _ ⟨hB, (p1_ hF.out), (p2_ hF.out), (p3_ hF.out), (p4_ hF.out), (p5_ hF.out), (p6_ hF.out), (p7_ hF.out), (p8_ hF.out), (p9_ hF.out), (p10_ hF.out), (p11_ hF.out), (fun _ => rfl), (p13_ hF.out), (p14_ hF.out), (p15_ hF.out), (p16_ hF.out), (p17_ hF.out), (p18_ hF.out), (p19_ hF.out), (p20_ hF.out), (p21_ hF.out), (p22_ hF.out), (p23_ hF.out), (p24_ hF.out), (p25_ hF.out), (q26_ hF.out)⟩
            refine StepsF.cons (o := _) rfl (ws := []) (by kernel_rfl) (by decide) (fun d s b w hF hd hw K_ hK => ?_) ?_
            · have hB : Below E.heap.size E w := (p0_ hF.out)
              have e19 : s 8 = .int .u64 ca := (p22_ hF.out) (by cases e : d 19 with | false => rfl | true => exact absurd ((p23_ hF.out) e) (by simp [hd]))
              dsimp only
              go_simp
              exact hK.out (ups (ups s 8 (.int .u64 ca)) 33 (.int .u64 ca)) b _ ⟨hB, (p1_ hF.out), (p2_ hF.out), (p3_ hF.out), (p4_ hF.out), (p5_ hF.out), (p6_ hF.out), (p7_ hF.out), (p8_ hF.out), (p9_ hF.out), (p10_ hF.out), (p11_ hF.out), (p12_ hF.out), (fun _ => rfl), (p14_ hF.out), (p15_ hF.out), (p16_ hF.out), (p17_ hF.out), (p18_ hF.out), (p19_ hF.out), (p20_ hF.out), (fun h => absurd ((p23_ hF.out) h) (by simp [hd])), (fun _ => rfl), (fun _ => rfl), (p24_ hF.out), (p25_ hF.out), (q26_ hF.out)⟩
            refine StepsF.cons (o := _) rfl (ws := [7, 10, 11, 12]) (by kernel_rfl) (by decide) (fun d s b w hF hd hw K_ hK => ?_) ?_
            · have hB : Below E.heap.size E w := (p0_ hF.out)
              have e7 : s 28 = .int .u64 x := (p8_ hF.out) (hw 7 (by decide))
              have e10 : s 31 = .int .u64 y := (p11_ hF.out) (hw 10 (by decide))
              have e11 : s 32 = .int .u64 bi := (p12_ hF.out) (hw 11 (by decide))
              have e12 : s 33 = .int .u64 ca := (p13_ hF.out) (hw 12 (by decide))
              dsimp only
              go_simp
              go_at_call 32
              refine (calls_stay (SC.out _)).mono ?_
              rintro e w1 ⟨rfl, hb⟩
              exact hK.out (ups (ups (ups (ups (ups s 28 (.int .u64 x)) 31 (.int .u64 y)) 32 (.int .u64 bi)) 33 (.int .u64 ca)) 34 (.tuple #[.int .u64 z, .int .u64 cb])) b _ ⟨(Below.go hB hb), (p1_ hF.out), (p2_ hF.out), (p3_ hF.out), (p4_ hF.out), (p5_ hF.out), (p6_ hF.out), (p7_ hF.out), (fun _ => rfl), (p9_ hF.out), (p10_ hF.out), (fun _ => rfl), (fun _ => rfl), (fun _ => rfl), (fun _ => rfl), (p15_ hF.out), (p16_ hF.out), (p17_ hF.out), (p18_ hF.out), (fun h0 => ((p19_ hF.out) h0).later hb), (fun h0 => ((p20_ hF.out) h0).later hb), (p21_ hF.out), (p22_ hF.out), (p23_ hF.out), (p24_ hF.out), (((p25_ hF.out)).later hb), (((q26_ hF.out)).later hb)⟩
            refine StepsF.cons (o := _) rfl (ws := [13]) (by kernel_rfl) (by decide) (fun d s b w hF hd hw K_ hK => ?_) ?_
            · have hB : Below E.heap.size E w := (p0_ hF.out)
              have e13 : s 34 = .tuple #[.int .u64 z, .int .u64 cb] := (p14_ hF.out) (hw 13 (by decide))
              dsimp only
              go_simp
              exact hK.out (ups (ups s 34 (.tuple #[.int .u64 z, .int .u64 cb])) 20 (.tuple #[.int .u64 z, .int .u64 cb])) b _ ⟨hB, (p1_ hF.out), (p2_ hF.out), (p3_ hF.out), (p4_ hF.out), (p5_ hF.out), (p6_ hF.out), (p7_ hF.out), (p8_ hF.out), (p9_ hF.out), (p10_ hF.out), (p11_ hF.out), (p12_ hF.out), (p13_ hF.out), (fun _ => rfl), (fun _ => rfl), (p16_ hF.out), (p17_ hF.out), (p18_ hF.out), (p19_ hF.out), (p20_ hF.out), (p21_ hF.out), (p22_ hF.out), (p23_ hF.out), (p24_ hF.out), (p25_ hF.out), (q26_ hF.out)⟩
            refine StepsF.cons (o := _) rfl (ws := [14]) (by kernel_rfl) (by decide) (fun d s b w hF hd hw K_ hK => ?_) ?_
            · have hB : Below E.heap.size E w := (p0_ hF.out)
              have e14 : s 20 = .tuple #[.int .u64 z, .int .u64 cb] := (p15_ hF.out) (hw 14 (by decide))
              dsimp only
              go_simp
              exact hK.out (ups (ups s 20 (.tuple #[.int .u64 z, .int .u64 cb])) 35 (.int .u64 z)) b _ ⟨hB, (p1_ hF.out), (p2_ hF.out), (p3_ hF.out), (p4_ hF.out), (p5_ hF.out), (p6_ hF.out), (p7_ hF.out), (p8_ hF.out), (p9_ hF.out), (p10_ hF.out), (p11_ hF.out), (p12_ hF.out), (p13_ hF.out), (p14_ hF.out), (fun _ => rfl), (fun _ => rfl), (p17_ hF.out), (p18_ hF.out), (p19_ hF.out), (p20_ hF.out), (p21_ hF.out), (p22_ hF.out), (p23_ hF.out), (p24_ hF.out), (p25_ hF.out), (q26_ hF.out)⟩
            refine StepsF.cons (o := _) rfl (ws := [14]) (by kernel_rfl) (by decide) (fun d s b w hF hd hw K_ hK => ?_) ?_
            · have hB : Below E.heap.size E w := (p0_ hF.out)
              have e14 : s 20 = .tuple #[.int .u64 z, .int .u64 cb] := (p15_ hF.out) (hw 14 (by decide))
              dsimp only
              go_simp
              exact hK.out (ups (ups s 20 (.tuple #[.int .u64 z, .int .u64 cb])) 36 (.int .u64 cb)) b _ ⟨hB, (p1_ hF.out), (p2_ hF.out), (p3_ hF.out), (p4_ hF.out), (p5_ hF.out), (p6_ hF.out), (p7_ hF.out), (p8_ hF.out), (p9_ hF.out), (p10_ hF.out), (p11_ hF.out), (p12_ hF.out), (p13_ hF.out), (p14_ hF.out), (fun _ => rfl), (p16_ hF.out), (fun _ => rfl), (p18_ hF.out), (p19_ hF.out), (p20_ hF.out), (p21_ hF.out), (p22_ hF.out), (p23_ hF.out), (p24_ hF.out), (p25_ hF.out), (q26_ hF.out)⟩
            refine StepsF.cons (o := _) rfl (ws := [2, 0, 1, 2, 3, 4, 5, 6, 7, 8, 9, 10, 11, 12, 13, 14, 15]) (by kernel_rfl) (by decide) (fun d s b w hF hd hw K_ hK => ?_) ?_
            · have hB : Below E.heap.size E w := (p0_ hF.out)
              have e0 : s 21 = .int .i64 i := (p1_ hF.out) (hw 0 (by decide))
              have e1 : s 22 = .int .i64 j := (p2_ hF.out) (hw 1 (by decide))
              have e2 : s 23 = .int .i64 (k : Int) := (p3_ hF.out) (hw 2 (by decide))
              have e3 : s 24 = .int .i64 i := (p4_ hF.out) (hw 3 (by decide))
              have e4 : s 25 = .int .i64 j := (p5_ hF.out) (hw 4 (by decide))
              have e5 : s 26 = .int .i64 (k : Int) := (p6_ hF.out) (hw 5 (by decide))
              have e6 : s 27 = .pointer (some ⟨Q, k, none⟩) := (p7_ hF.out) (hw 6 (by decide))
              have e7 : s 28 = .int .u64 x := (p8_ hF.out) (hw 7 (by decide))
              have e8 : s 29 = .int .i64 j := (p9_ hF.out) (hw 8 (by decide))
              have e9 : s 30 = .pointer (some ⟨X, j, none⟩) := (p10_ hF.out) (hw 9 (by decide))
              have e10 : s 31 = .int .u64 y := (p11_ hF.out) (hw 10 (by decide))
              have e11 : s 32 = .int .u64 bi := (p12_ hF.out) (hw 11 (by decide))
              have e12 : s 33 = .int .u64 ca := (p13_ hF.out) (hw 12 (by decide))
              have e13 : s 34 = .tuple #[.int .u64 z, .int .u64 cb] := (p14_ hF.out) (hw 13 (by decide))
              have e14 : s 20 = .tuple #[.int .u64 z, .int .u64 cb] := (p15_ hF.out) (hw 14 (by decide))
              have e15 : s 35 = .int .u64 z := (p16_ hF.out) (hw 15 (by decide))
              dsimp only
              go_simp
              exact hK.out (ups (ups (ups (ups (ups (ups (ups (ups (ups (ups (ups (ups (ups (ups (ups (ups (ups s 21 (.int .i64 i)) 22 (.int .i64 j)) 23 (.int .i64 (k : Int))) 24 (.int .i64 i)) 25 (.int .i64 j)) 26 (.int .i64 (k : Int))) 27 (.pointer (some ⟨Q, k, none⟩))) 28 (.int .u64 x)) 29 (.int .i64 j)) 30 (.pointer (some ⟨X, j, none⟩))) 31 (.int .u64 y)) 32 (.int .u64 bi)) 33 (.int .u64 ca)) 34 (.tuple #[.int .u64 z, .int .u64 cb])) 20 (.tuple #[.int .u64 z, .int .u64 cb])) 35 (.int .u64 z)) 37 (.pointer (some ⟨Q, k, none⟩))) b _ ⟨hB, (fun _ => rfl), (fun _ => rfl), (fun _ => rfl), (fun _ => rfl), (fun _ => rfl), (fun _ => rfl), (fun _ => rfl), (fun _ => rfl), (fun _ => rfl), (fun _ => rfl), (fun _ => rfl), (fun _ => rfl), (fun _ => rfl), (fun _ => rfl), (fun _ => rfl), (fun _ => rfl), (p17_ hF.out), (fun _ => rfl), (p19_ hF.out), (p20_ hF.out), (p21_ hF.out), (p22_ hF.out), (p23_ hF.out), (p24_ hF.out), (p25_ hF.out), (q26_ hF.out)⟩
            refine StepsF.cons (o := _) rfl (ws := [17, 15, 13, 0, 1, 2, 3, 4, 5, 6, 7, 8, 9, 10, 11, 12, 13, 14, 15]) (by kernel_rfl) (by decide) (fun d s b w hF hd hw K_ hK => ?_) ?_
            · have hB : Below E.heap.size E w := (p0_ hF.out)
              have e0 : s 21 = .int .i64 i := (p1_ hF.out) (hw 0 (by decide))
              have e1 : s 22 = .int .i64 j := (p2_ hF.out) (hw 1 (by decide))
              have e2 : s 23 = .int .i64 (k : Int) := (p3_ hF.out) (hw 2 (by decide))
              have e3 : s 24 = .int .i64 i := (p4_ hF.out) (hw 3 (by decide))
              have e4 : s 25 = .int .i64 j := (p5_ hF.out) (hw 4 (by decide))
              have e5 : s 26 = .int .i64 (k : Int) := (p6_ hF.out) (hw 5 (by decide))
              have e6 : s 27 = .pointer (some ⟨Q, k, none⟩) := (p7_ hF.out) (hw 6 (by decide))
              have e7 : s 28 = .int .u64 x := (p8_ hF.out) (hw 7 (by decide))
              have e8 : s 29 = .int .i64 j := (p9_ hF.out) (hw 8 (by decide))
              have e9 : s 30 = .pointer (some ⟨X, j, none⟩) := (p10_ hF.out) (hw 9 (by decide))
              have e10 : s 31 = .int .u64 y := (p11_ hF.out) (hw 10 (by decide))
              have e11 : s 32 = .int .u64 bi := (p12_ hF.out) (hw 11 (by decide))
              have e12 : s 33 = .int .u64 ca := (p13_ hF.out) (hw 12 (by decide))
              have e13 : s 34 = .tuple #[.int .u64 z, .int .u64 cb] := (p14_ hF.out) (hw 13 (by decide))
              have e14 : s 20 = .tuple #[.int .u64 z, .int .u64 cb] := (p15_ hF.out) (hw 14 (by decide))
              have e15 : s 35 = .int .u64 z := (p16_ hF.out) (hw 15 (by decide))
              have e17 : s 37 = .pointer (some ⟨Q, k, none⟩) := (p18_ hF.out) (hw 17 (by decide))
              dsimp only
              have oX := (p19_ hF.out) hd
              have fr := oX.ok k (by rw [nums_length]; exact hij)
              have ce := oX.at k _ (by rw [nums_at _ _ hij])
              go_simp
              exact hK.out (ups (ups (ups (ups (ups (ups (ups (ups (ups (ups (ups (ups (ups (ups (ups (ups (ups s 21 (.int .i64 i)) 22 (.int .i64 j)) 23 (.int .i64 (k : Int))) 24 (.int .i64 i)) 25 (.int .i64 j)) 26 (.int .i64 (k : Int))) 27 (.pointer (some ⟨Q, k, none⟩))) 28 (.int .u64 x)) 29 (.int .i64 j)) 30 (.pointer (some ⟨X, j, none⟩))) 31 (.int .u64 y)) 32 (.int .u64 bi)) 33 (.int .u64 ca)) 34 (.tuple #[.int .u64 z, .int .u64 cb])) 20 (.tuple #[.int .u64 z, .int .u64 cb])) 35 (.int .u64 z)) 37 (.pointer (some ⟨Q, k, none⟩))) b _ ⟨(Below.setCells hB Qw [.int .u64 z] k), (fun _ => rfl), (fun _ => rfl), (fun _ => rfl), (fun _ => rfl), (fun _ => rfl), (fun _ => rfl), (fun _ => rfl), (fun _ => rfl), (fun _ => rfl), (fun _ => rfl), (fun _ => rfl), (fun _ => rfl), (fun _ => rfl), (fun _ => rfl), (fun _ => rfl), (fun _ => rfl), (p17_ hF.out), (fun _ => rfl), (fun h => nomatch h), (fun _ => (ME.out ▸ own_set (v := z) oX hij)), (p21_ hF.out), (p22_ hF.out), (p23_ hF.out), (fun _ => hw 7 (by decide)), (Own.far (o := k) (vs := [.int .u64 z]) (p25_ hF.out) nXQ), (Own.far (o := k) (vs := [.int .u64 z]) (q26_ hF.out) nRQ)⟩
            refine StepsF.cons (o := _) rfl (ws := [16, 18, 0, 1, 2, 3, 4, 5, 6, 7, 8, 9, 10, 11, 12, 13, 14, 15, 16, 17, 18]) (by kernel_rfl) (by decide) (fun d s b w hF hd hw K_ hK => ?_) ?_
            · have hB : Below E.heap.size E w := (p0_ hF.out)
              have e0 : s 21 = .int .i64 i := (p1_ hF.out) (hw 0 (by decide))
              have e1 : s 22 = .int .i64 j := (p2_ hF.out) (hw 1 (by decide))
              have e2 : s 23 = .int .i64 (k : Int) := (p3_ hF.out) (hw 2 (by decide))
              have e3 : s 24 = .int .i64 i := (p4_ hF.out) (hw 3 (by decide))
              have e4 : s 25 = .int .i64 j := (p5_ hF.out) (hw 4 (by decide))
              have e5 : s 26 = .int .i64 (k : Int) := (p6_ hF.out) (hw 5 (by decide))
              have e6 : s 27 = .pointer (some ⟨Q, k, none⟩) := (p7_ hF.out) (hw 6 (by decide))
              have e7 : s 28 = .int .u64 x := (p8_ hF.out) (hw 7 (by decide))
              have e8 : s 29 = .int .i64 j := (p9_ hF.out) (hw 8 (by decide))
              have e9 : s 30 = .pointer (some ⟨X, j, none⟩) := (p10_ hF.out) (hw 9 (by decide))
              have e10 : s 31 = .int .u64 y := (p11_ hF.out) (hw 10 (by decide))
              have e11 : s 32 = .int .u64 bi := (p12_ hF.out) (hw 11 (by decide))
              have e12 : s 33 = .int .u64 ca := (p13_ hF.out) (hw 12 (by decide))
              have e13 : s 34 = .tuple #[.int .u64 z, .int .u64 cb] := (p14_ hF.out) (hw 13 (by decide))
              have e14 : s 20 = .tuple #[.int .u64 z, .int .u64 cb] := (p15_ hF.out) (hw 14 (by decide))
              have e15 : s 35 = .int .u64 z := (p16_ hF.out) (hw 15 (by decide))
              have e16 : s 36 = .int .u64 cb := (p17_ hF.out) (hw 16 (by decide))
              have e17 : s 37 = .pointer (some ⟨Q, k, none⟩) := (p18_ hF.out) (hw 17 (by decide))
              dsimp only
              go_simp
              exact hK.out (ups (ups (ups (ups (ups (ups (ups (ups (ups (ups (ups (ups (ups (ups (ups (ups (ups (ups (ups s 21 (.int .i64 i)) 22 (.int .i64 j)) 23 (.int .i64 (k : Int))) 24 (.int .i64 i)) 25 (.int .i64 j)) 26 (.int .i64 (k : Int))) 27 (.pointer (some ⟨Q, k, none⟩))) 28 (.int .u64 x)) 29 (.int .i64 j)) 30 (.pointer (some ⟨X, j, none⟩))) 31 (.int .u64 y)) 32 (.int .u64 bi)) 33 (.int .u64 ca)) 34 (.tuple #[.int .u64 z, .int .u64 cb])) 20 (.tuple #[.int .u64 z, .int .u64 cb])) 35 (.int .u64 z)) 36 (.int .u64 cb)) 37 (.pointer (some ⟨Q, k, none⟩))) 8 (.int .u64 cb)) b _ ⟨hB, (fun _ => rfl), (fun _ => rfl), (fun _ => rfl), (fun _ => rfl), (fun _ => rfl), (fun _ => rfl), (fun _ => rfl), (fun _ => rfl), (fun _ => rfl), (fun _ => rfl), (fun _ => rfl), (fun _ => rfl), (fun _ => rfl), (fun _ => rfl), (fun _ => rfl), (fun _ => rfl), (fun _ => rfl), (fun _ => rfl), (p19_ hF.out), (p20_ hF.out), (fun _ => rfl), (fun h => nomatch h), (fun _ => hw 12 (by decide)), (p24_ hF.out), (p25_ hF.out), (q26_ hF.out)⟩
            exact StepsF.nil
          intro d s b w1 hF hall
          replace hF := Lib.hid hF
          have hB : Below E.heap.size E w1 := (p0_ hF.out)
          try dsimp only
          have e0 : s 21 = .int .i64 i := (p1_ hF.out) (hall 0 (by decide))
          have e1 : s 22 = .int .i64 j := (p2_ hF.out) (hall 1 (by decide))
          have e2 : s 23 = .int .i64 (k : Int) := (p3_ hF.out) (hall 2 (by decide))
          have e3 : s 24 = .int .i64 i := (p4_ hF.out) (hall 3 (by decide))
          have e4 : s 25 = .int .i64 j := (p5_ hF.out) (hall 4 (by decide))
          have e5 : s 26 = .int .i64 (k : Int) := (p6_ hF.out) (hall 5 (by decide))
          have e6 : s 27 = .pointer (some ⟨Q, k, none⟩) := (p7_ hF.out) (hall 6 (by decide))
          have e7 : s 28 = .int .u64 x := (p8_ hF.out) (hall 7 (by decide))
          have e8 : s 29 = .int .i64 j := (p9_ hF.out) (hall 8 (by decide))
          have e9 : s 30 = .pointer (some ⟨X, j, none⟩) := (p10_ hF.out) (hall 9 (by decide))
          have e10 : s 31 = .int .u64 y := (p11_ hF.out) (hall 10 (by decide))
          have e11 : s 32 = .int .u64 bi := (p12_ hF.out) (hall 11 (by decide))
          have e12 : s 33 = .int .u64 ca := (p13_ hF.out) (hall 12 (by decide))
          have e13 : s 34 = .tuple #[.int .u64 z, .int .u64 cb] := (p14_ hF.out) (hall 13 (by decide))
          have e14 : s 20 = .tuple #[.int .u64 z, .int .u64 cb] := (p15_ hF.out) (hall 14 (by decide))
          have e15 : s 35 = .int .u64 z := (p16_ hF.out) (hall 15 (by decide))
          have e16 : s 36 = .int .u64 cb := (p17_ hF.out) (hall 16 (by decide))
          have e17 : s 37 = .pointer (some ⟨Q, k, none⟩) := (p18_ hF.out) (hall 17 (by decide))
          have f18 := (p20_ hF.out) (hall 18 (by decide))
          have e19 : s 8 = .int .u64 cb := (p21_ hF.out) (hall 19 (by decide))
          have ox := (p25_ hF.out)
          have orr := (q26_ hF.out)
          rw [e0, e1, e2, e3, e4, e5, e6, e7, e8, e9, e10, e11, e12, e13, e14, e15, e16, e17, e19]
          clear hall hF e0 e1 e2 e3 e4 e5 e6 e7 e8 e9 e10 e11 e12 e13 e14 e15 e16 e17 e19
          clear d s b
          have o0 := Lib.hid hB; have o1 := Lib.hid f18; have o2 := Lib.hid ox; have o3 := Lib.hid orr
          clear HX HQ HR HB hB f18 ox orr
          go_wp2_with (fail)
          go_roundw
          case rel => (first | exact ⟨j + 1, by omega, by rw [ED.out], by go_num, o0, o2, by rw [← Nat.add_assoc, EK.out]; exact o1, o3⟩ | ((repeat apply Exists.intro); exact ⟨⟨j + 1, by omega, by rw [ED.out], by go_num, o0, o2, by rw [← Nat.add_assoc, EK.out]; exact o1, o3⟩, rfl⟩))
          case measure => simp [intOf]; omega
        · have ejm : j = m := by omega
          subst ejm
          have HQ2 : Hid (Own Q (nums .u64 (limb (A * (B % 2 ^ (64 * (i + 1))))) 4) wr) := Lib.hid (by have h := HQ.out; rw [hm, mixL_all, HP.out] at h; exact h)
          clear HQ
          go_wp2_with (fail)
          go_roundw
          case rel => (first | exact ⟨i + 1, by omega, by go_num, HB, HX, HQ2, HR⟩ | ((repeat apply Exists.intro); exact ⟨⟨i + 1, by omega, by go_num, HB, HX, HQ2, HR⟩, rfl⟩))
          case measure => simp [intOf]; omega
    · have e4 : i = 4 := by omega
      subst e4
      rw [show B % 2 ^ (64 * 4) = B from Nat.mod_eq_of_lt BB.out] at HQ
      go_upto_region 12 with fail
      have hB0 := HB.out
      refine wp_region_lit ?_
      refine wpList_load_mid rfl 59 _ rfl Q 0 rfl (nums .u64 (limb (A * B)) 4) _ HQ.out.cell Try.underlying59 rfl (by kernel_rfl) ?_
      refine wpList_store_mid rfl 59 _ _ rfl R 0 (nums .u64 (limb (A * B)) 4).toArray rfl rfl HR.out.free (by kernel_rfl) (nums_all _ _ _) ?_
      change wpList _ _ _ [] _ (wr.setCells R 0 (nums .u64 (limb (A * B)) 4))
      have HRn : Hid (Own R (nums .u64 (limb (A * B)) 4) (wr.setCells R 0 (nums .u64 (limb (A * B)) 4))) := Lib.hid (Own.store HR.out (by simp [nums_length]))
      have HQn : Hid (Own Q (nums .u64 (limb (A * B)) 4) (wr.setCells R 0 (nums .u64 (limb (A * B)) 4))) := Lib.hid (Own.far (o := 0) (vs := (nums .u64 (limb (A * B)) 4)) HQ.out nQR)
      have hB0n : Below w.heap.size w (wr.setCells R 0 (nums .u64 (limb (A * B)) 4)) := Below.setCells hB0 Rw (nums .u64 (limb (A * B)) 4) 0
      clear HR HQ hB0
      generalize (wr.setCells R 0 (nums .u64 (limb (A * B)) 4)) = wz at *
      have HR := HRn
      clear HRn
      have HQ := HQn
      clear HQn
      have hB0 := hB0n
      clear hB0n
      go_wp2_with (fail)
      have hL := run_loadVar_mid (P := Try.prog) _ R 0 59 (nums .u64 (limb (A * B)) 4) _ HR.out.cell Try.underlying59 rfl (by kernel_rfl)
      exact bodyPost_ret (v := .agg (nums .u64 (limb (A * B)) 4).toArray) (res_cell Try.results27 rfl hL) rfl ⟨rfl, hB0⟩
end Go.Proofs.Ytbofihejegbfhaa
