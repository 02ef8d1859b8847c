/- The document's numbers: Power. -/
import Derived.Test.YtlfchlholabijaaRI
import Derived.Deep.OwnRows
import Derived.ChangeSlices
import Derived.Deep.DeepCutAuto
namespace Go.Proofs.Ytlfchlholabijaa
set_option linter.unusedVariables false
set_option maxRecDepth 2000
open Go.RowKit
attribute [local go_sem] setCell_twice setCell_pair

theorem infoI : (Try.prog.info? 3).map (fun i => (i.zero, i.size, i.bytes)) = some (some (.int .i64 0), 1, 8) := by kernel_rfl

theorem V_zero (n : Nat) : V (fun _ => 0) n = 0 := by
  induction n with
  | zero => rfl
  | succ n ih => rw [V, ih]; simp
/-- one digit that is not 0, the highest -/
theorem val_one (k : Nat) (p : Int) : val (List.replicate k 0 ++ [p]) = p * 65536 ^ k := by
  have h : ∀ k, val (List.replicate k 0) = 0 := by
    intro k
    induction k with
    | zero => rfl
    | succ k ih => rw [List.replicate_succ, val, ih]; rfl
  rw [val_snoc, h, List.length_replicate, Int.zero_add]
theorem getD_one (k i : Nat) (p : Int) : (List.replicate k 0 ++ [p]).getD i 0 = if i = k then p else 0 := by
  rw [List.getD_eq_getElem?_getD]
  rcases Nat.lt_trichotomy i k with h | h | h
  · rw [List.getElem?_append_left (by simpa using h), if_neg (by omega)]; simp [h]
  · subst h; simp
  · rw [List.getElem?_eq_none (by simp; omega), if_neg (by omega)]; rfl
theorem NumR.one {w : World} {B k K : Nat} {p : Int} (hK : k + 1 = K) (hk : k ≤ 1000) (p0 : 1 ≤ p) (p1 : p ≤ 65535) (hr : w.rowIs B 3 K (fun j => if j = k then .int .i64 p else .int .i64 0)) :
    NumR w (.agg #[.bool false, .slice (some ⟨B, 0, none⟩) K K]) (p * 65536 ^ k) := by
  subst hK
  refine ⟨false, _, List.replicate k 0 ++ [p], rfl, .inr ⟨B, k + 1, k + 1, rfl, by simp, Nat.le_refl _, by omega, hr.lt, fun i hi => ?_⟩, fun i => ?_, .inr ?_, fun h => ?_, ?_⟩
  · rw [hr.cell hi, getD_one]; split <;> rfl
  · rw [getD_one]; split <;> omega
  · rw [getD_one]; simp; omega
  · simp at h
  · simp [val_one]

set_option maxHeartbeats 1000000 in
theorem Power_core (n k r K : Nat) (p z : Int) (w : World) (hn : n ≤ 1000) (hk : k ≤ 100) (hk1 : (k : Int) + 1 = (K : Int)) (hq : (n : Int) / 16 = (k : Int)) (hr : (n : Int) % 16 = (r : Int)) (hr1 : r ≤ 15) (hp : (2 : Int) ^ r = p) (p0 : 1 ≤ p) (p1 : p ≤ 32768) (hz : p * 65536 ^ k = z) :
    Calls Try.prog 16 #[.int .i64 n] w (NumE w z) := by
  have hmk := run_make_row' (P := Try.prog) 27 3 (.int .i64 0) 8 Try.underlying27 infoI rfl .i64 .i64 K (by omega) (by omega)
  have hkK : k < K := by omega
  go_enter Try.func16, Try.ntmps16
  go_upto_region 2 with (fail)
  have hB0 : Below w.heap.size w ((w.alloc (.cells #[.bool false, .slice none 0 0] 29)).alloc (.cells (madeCells #[.int .i64 0] K) 3)) := (by repeat (first | exact Below.refl _ _ | assumption | refine below_drewN ?_ _ | refine Below.drew ?_ | refine Below.alloc ?_ (by first | omega | (simp; done) | (simp; omega)) _ | refine Below.setCell ?_ (by first | (simp; done) | (simp; omega)) _))
  have K0 : Kept [(w.heap.size, 0, .bool false), (w.heap.size, 1, .slice none 0 0)] ((w.alloc (.cells #[.bool false, .slice none 0 0] 29)).alloc (.cells (madeCells #[.int .i64 0] K) 3)) := by
    refine .cons ?_ ?_ ?_ (.cons ?_ ?_ ?_ .nil) <;> first | (simp; done) | (simp; omega) | (simp [go_sem]; done)
  have hrow := World.rowIs_made (w.alloc (.cells #[.bool false, .slice none 0 0] 29)) (.int .i64 0) K 3
  rw [show (w.alloc (.cells #[.bool false, .slice none 0 0] 29)).heap.size = w.heap.size + 1 by simp] at hrow
  obtain ⟨B, hBe⟩ : ∃ B, B = w.heap.size + 1 := ⟨_, rfl⟩
  obtain ⟨R, hRe⟩ : ∃ R, R = w.heap.size := ⟨_, rfl⟩
  rw [← hBe] at hrow ⊢
  rw [← hRe] at K0 ⊢
  generalize (w.alloc (.cells #[.bool false, .slice none 0 0] 29)).alloc (.cells (madeCells #[.int .i64 0] K) 3) = W0 at *
  have hS0 := hB0.size
  have nBR : ¬ B = R := by omega
  have hwB : w.heap.size ≤ B := by omega
  have hwR : w.heap.size ≤ R := by omega
  have cB := hrow.cell hkK
  have fB := hrow.frozen k
  have r0 := (K0.get R 0 (.bool false) (by simp)).2.1
  have r1 := (K0.get R 1 (.slice none 0 0) (by simp)).2.1
  have e0 := (K0.get R 0 (.bool false) (by simp)).2.2
  have e1 := (K0.get R 1 (.slice none 0 0) (by simp)).2.2
  have hf := Lib.hid (NumR.one (w := ((W0.setCell ⟨B, k, none⟩ (.int .i64 p)).setCell ⟨R, 0, none⟩ (.bool false)).setCell ⟨R, 1, none⟩ (.slice (some ⟨B, 0, none⟩) K K)) (by omega) (by omega) p0 (by omega) (((hrow.set k (.int .i64 p)).setOther nBR _).setOther nBR _))
  have HZ := Lib.hid hz
  clear hrow K0 hBe hRe hz
  go_wp2_with (fail)
  exact bodyPost_ret (v := .agg #[.bool false, .slice (some ⟨B, 0, none⟩) K K]) (by simp [results, Try.results16, go_sem, r0, r1]) rfl ⟨_, rfl, HZ.out ▸ hf.out, (by repeat (first | exact Below.refl _ _ | assumption | refine below_drewN ?_ _ | refine Below.drew ?_ | refine Below.alloc ?_ (by first | omega | (simp; done) | (simp; omega)) _ | refine Below.setCell ?_ (by first | (simp; done) | (simp; omega)) _))⟩

theorem pow_16 (n : Nat) : (2 : Int) ^ (n % 16) * 65536 ^ (n / 16) = 2 ^ n := by
  have h : (65536 : Int) ^ (n / 16) = 2 ^ (16 * (n / 16)) := by rw [Int.pow_mul]; rfl
  rw [h, ← Int.pow_add, Nat.mod_add_div]

/-- Power: 2 so many times -/
theorem power_any (n : Nat) (hn : n ≤ 1000) (w : World) : Calls Try.prog 16 #[.int .i64 n] w (NumE w (2 ^ n)) := by
  have hp : (1 : Int) ≤ 2 ^ (n % 16) ∧ (2 : Int) ^ (n % 16) ≤ 32768 := by
    have h := Nat.mod_lt n (show 0 < 16 by omega)
    generalize n % 16 = r at *
    have e : (2 : Int) ^ r = ((2 ^ r : Nat) : Int) := by simp
    have a : 2 ^ r ≤ 2 ^ 15 := Nat.pow_le_pow_right (by omega) (by omega)
    have b := Nat.two_pow_pos r
    rw [e]; omega
  exact Power_core n (n / 16) (n % 16) (n / 16 + 1) _ _ w hn (by omega) (by omega) (by omega) (by omega) (by omega) rfl hp.1 hp.2 (pow_16 n)
end Go.Proofs.Ytlfchlholabijaa
