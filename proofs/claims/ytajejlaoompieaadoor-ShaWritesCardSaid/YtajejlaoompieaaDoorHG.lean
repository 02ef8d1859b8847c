/- sha.Pad. -/
import Derived.Test.YtajejlaoompieaaDoorHB
import Derived.Test.YtajejlaoompieaaDoorHU
import Derived.Lib.Hide
import Derived.LoopN
import Derived.LoopTactic
import Derived.Deep.Onto
import Derived.Laws.OwnMore
namespace Go.Proofs.YtajejlaoompieaaDoor
set_option linter.unusedVariables false
set_option maxRecDepth 2000
set_option linter.unusedSimpArgs false
open Go.RowKit
theorem made_nums (n : Nat) : (madeCells (Value.int IntKind.u8 0).cells (n * 1)).toList = nums .u8 (fun _ => 0) n := by
  show (madeCells #[Value.int IntKind.u8 0] (n * 1)).toList = _
  rw [toList_madeCells_one, Nat.mul_one]
  unfold nums
  simp [List.map_const']
/-- the padding, its first i bytes of the length laid -/
def padI (n i : Nat) : Nat → Int := fun j => if j < 1 + zer n + i then padF n j else 0
theorem pad_first (n : Nat) (L : Nat) : (nums .u8 (fun _ => 0) L).set 0 (.int .u8 128) = nums .u8 (padI n 0) L := by
  rw [nums_lset]
  refine nums_congr _ fun j _ => ?_
  unfold at1 padI padF
  by_cases h : j = 0
  · rw [if_pos h, if_pos (by omega), if_pos h]
  · rw [if_neg h]
    by_cases h2 : j < 1 + zer n + 0
    · rw [if_pos h2, if_neg h, if_pos (show j < 1 + zer n by omega)]
    · rw [if_neg h2]
theorem pad_next (n i L : Nat) (v : Int) (hv : v = padF n (1 + zer n + i)) : nums .u8 (at1 (padI n i) (1 + zer n + i) v) L = nums .u8 (padI n (i + 1)) L := nums_congr _ fun j _ => by
  unfold at1 padI
  by_cases h : j = 1 + zer n + i
  · rw [if_pos h, if_pos (by omega), h]; exact hv
  · rw [if_neg h]
    by_cases h2 : j < 1 + zer n + i
    · rw [if_pos h2, if_pos (by omega)]
    · rw [if_neg h2, if_neg (by omega)]
theorem pad_done (n : Nat) : nums .u8 (padI n 8) (plen n) = nums .u8 (padF n) (plen n) := nums_congr _ fun j hj => by
  unfold padI plen at *
  rw [if_pos (by omega)]
theorem padF_len (n i : Nat) (hi : i < 8) : padF n (1 + zer n + i) = lenW n / ((2 ^ (56 - 8 * i) : Nat) : Int) % 256 := by
  unfold padF
  rw [if_neg (by omega), if_neg (by omega), show 1 + zer n + i - 1 - zer n = i by omega]

set_option maxHeartbeats 4000000 in
theorem Pad_any (n : Int) (N : Nat) (e1 : max n 0 = (N : Int)) (hN : N ≤ 9223372036854775807) (w : World) :
    Calls Tryd.prog 11 #[.int .i64 n] w fun e w' => ∃ v, e = .returned v ∧ w'.ownsRow w.heap.size 5 1 v (plen N) (nums .u8 (padF N) (plen N)) ∧ Below w.heap.size w w' := by
  obtain ⟨i0, hi, hz0, hz1, hz2⟩ := infoB_parts
  have HN := Lib.hid hN
  obtain ⟨z, ez⟩ : ∃ z, zer N = z := ⟨_, rfl⟩
  obtain ⟨L, eL⟩ : ∃ L, plen N = L := ⟨_, rfl⟩
  have hz : z < 64 := ez ▸ zer_lt N
  have hL : L = 9 + z := by rw [← eL, ← ez]; rfl
  obtain ⟨r, er⟩ : ∃ r, N % 64 = r := ⟨_, rfl⟩
  have m1 : (N : Int).tmod 64 = (r : Int) := by rw [Int.tmod_eq_emod_of_nonneg (by omega)]; omega
  have m1' : (N : Int) % 64 = (r : Int) := by omega
  have wr1 : IntKind.i64.wrap (r : Int) = (r : Int) := IntWalk.i64_in _ (by omega)
  obtain ⟨s, es⟩ : ∃ s, 119 - r = s := ⟨_, rfl⟩
  have m2 : 119 - (r : Int) = (s : Int) := by omega
  have ws1 : IntKind.i64.wrap (s : Int) = (s : Int) := IntWalk.i64_in _ (by omega)
  have m3 : (s : Int).tmod 64 = (z : Int) := by
    rw [Int.tmod_eq_emod_of_nonneg (by omega), ← ez]
    unfold zer
    omega
  have m3' : (s : Int) % 64 = (z : Int) := by
    rw [← ez]
    unfold zer
    omega
  have wz1 : IntKind.i64.wrap (z : Int) = (z : Int) := IntWalk.i64_in _ (by omega)
  obtain ⟨y, ey⟩ : ∃ y, 1 + z = y := ⟨_, rfl⟩
  have m4 : 1 + (z : Int) = (y : Int) := by omega
  have wy1 : IntKind.i64.wrap (y : Int) = (y : Int) := IntWalk.i64_in _ (by omega)
  have m5 : (y : Int) + 8 = (L : Int) := by omega
  have wL1 : IntKind.i64.wrap (L : Int) = (L : Int) := IntWalk.i64_in _ (by omega)
  have L0 : (0 : Int) ≤ (L : Int) := by omega
  have u1 : IntKind.u64.wrap (N : Int) = (N : Int) := by rw [IntKind.wrap_u64]; omega
  have u1' : (N : Int) % 18446744073709551616 = (N : Int) := by omega
  obtain ⟨lw, el⟩ : ∃ lw, lenW N = lw := ⟨_, rfl⟩
  have u2 : 8 * (N : Int) % 18446744073709551616 = lw := el
  have u3 : IntKind.u64.wrap (8 * (N : Int)) = lw := (IntKind.wrap_u64 _).trans el
  obtain ⟨W1, hmk, hrow, hgr⟩ := run_make_full (P := Tryd.prog) (w := w) w.heap.size 23 5 i0 (.int .u8 0) 1 Tryd.underlying23 hi hz0 hz1 .i64 .i64 L (by rw [hz2]; omega) (by unfold maxLen; omega) (Nat.le_refl _)
  have hB1 : Below w.heap.size w W1 := (Below.refl _ _).grown hgr (Nat.le_refl _) (fun k hk => nomatch hk)
  rw [made_nums] at hrow
  have ROW := Lib.hid hrow
  have x0 := hrow.cellAt 0 (by omega)
  rw [nums_at .u8 _ (show 0 < L by omega)] at x0
  have f0 := hrow.frozenAt 0
  have Xl := (row_has hrow).1.lt
  have st := hrow.stored 0 (.int .u8 128)
  rw [pad_first N L] at st
  have ROW2 := Lib.hid st.1
  have Lp : (0 : Int) < (L : Int) := by omega
  have Lpn : 0 < L := by omega
  have Z1 := Lib.hid ez; have Y1 := Lib.hid ey; have L1 := Lib.hid hL; have EL := Lib.hid eL; have ELW := Lib.hid el
  have HZ := Lib.hid hz
  clear ez ey hL eL el hN hi hz0 hz1 hz2 er es st hrow hz
  go_enter Tryd.func11, Tryd.ntmps11
  go_wp2_with (fail)
  have HB2 := Lib.hid (show Below w.heap.size w (W1.setCell ⟨w.heap.size, 0, none⟩ (.int .u8 128)) from Below.setCells hB1 (Nat.le_refl _) [.int .u8 128] 0)
  obtain ⟨X, eX⟩ : ∃ X, w.heap.size = X := ⟨_, rfl⟩
  rw [eX] at ROW2 HB2 ⊢
  have WX := Lib.hid eX
  clear ROW hmk hgr hB1 x0 f0 Xl
  generalize (W1.setCell ⟨X, 0, none⟩ (.int .u8 128)) = W2 at *
  go_loopw [22] (fun iv wr => ∃ (i : Nat), i ≤ 8 ∧ iv = .int .i64 i ∧ Hid (wr.ownsRow X 5 1 (.slice (some ⟨X, 0, none⟩) L L) L (nums .u8 (padI N i) L)) ∧ Hid (Below X w wr)) (fun iv _ => (8 - (intOf iv).toNat))
  case atStart => exact ⟨0, Nat.zero_le _, rfl, ROW2, HB2⟩
  case round =>
    clear ROW2 HB2
    obtain ⟨i, hi, rfl, ROW, HB⟩ := hrel
    by_cases hlt : i < 8
    · obtain ⟨t, et⟩ : ∃ t, 1 + zer N + i = t := ⟨_, rfl⟩
      have ht : t < L := by have := L1.out; have := Z1.out; omega
      have xc := ROW.out.cellAt t (by omega)
      rw [nums_at .u8 _ ht] at xc
      have xf := ROW.out.frozenAt t
      have xl : X < wr.heap.size := (row_has ROW.out).1.lt
      have st := ROW.out.stored t
      have PN := Lib.hid (pad_next N i L)
      have PL := padF_len N i hlt
      rw [et] at PN PL
      obtain ⟨m, em⟩ : ∃ m, 56 - 8 * i = m := ⟨_, rfl⟩
      have hm : m ≤ 56 := by omega
      rw [em, ELW.out] at PL
      rw [show ((2 ^ m : Nat) : Int) = (2 : Int) ^ m by push_cast; rfl] at PL
      obtain ⟨q, eq⟩ : ∃ q, lw / (2 : Int) ^ m = q := ⟨_, rfl⟩
      rw [eq] at PL
      obtain ⟨v, ev⟩ : ∃ v, q % 256 = v := ⟨_, rfl⟩
      rw [ev] at PL
      have st1 := st (.int .u8 v)
      rw [nums_lset, PN.out v PL.symm] at st1
      have O1 := Lib.hid st1.1
      have O2 := Lib.hid (show Below X w (wr.setCell ⟨X, t, none⟩ (.int .u8 v)) from Below.setCells HB.out (Nat.le_refl _) [.int .u8 v] t)
      have gv : IntKind.u8.wrap q = v := (IntKind.wrap_u8' _).trans ev
      have a1 : 8 * (i : Int) = ((8 * i : Nat) : Int) := by omega
      obtain ⟨p, ep⟩ : ∃ p, 8 * i = p := ⟨_, rfl⟩
      rw [ep] at a1
      have a2 : 56 - (p : Int) = (m : Int) := by omega
      have wp : IntKind.i64.wrap (p : Int) = (p : Int) := IntWalk.i64_in _ (by omega)
      have wm : IntKind.i64.wrap (m : Int) = (m : Int) := IntWalk.i64_in _ (by omega)
      have a3 : (y : Int) + (i : Int) = (t : Int) := by have := Y1.out; have := Z1.out; omega
      have wt : IntKind.i64.wrap (t : Int) = (t : Int) := IntWalk.i64_in _ (by have := HZ.out; have := L1.out; omega)
      have t0 : (0 : Int) ≤ (t : Int) := by omega
      have t1 : (t : Int) < (L : Int) := by omega
      have mm : min m 64 = m := by omega
      have p0 : (0 : Int) ≤ (m : Int) := by omega
      have hii : (i : Int) < 8 := by omega
      have i0_ : (0 : Int) ≤ (i : Int) := by omega
      have wi : IntKind.i64.wrap ((i : Int) + 1) = (i : Int) + 1 := IntWalk.i64_in _ (by omega)
      have HLT := Lib.hid hlt
      clear hlt hi et ht st PN PL em hm ep ROW HB st1
      go_wp2_with (fail)
      go_roundw
      case rel => (first | exact ⟨i + 1, HLT.out, by go_num, O1, O2⟩ | ((repeat apply Exists.intro); exact ⟨⟨i + 1, HLT.out, by go_num, O1, O2⟩, rfl⟩))
      case measure => (have := HLT.out; simp [intOf]; omega)
    · obtain rfl : i = 8 := by omega
      go_wp2_with (fail)
      go_ret
      rw [WX.out]
      refine ⟨_, rfl, ?_, HB.out⟩
      have h := ROW.out
      rw [← EL.out] at h ⊢
      rw [pad_done] at h
      exact h
end Go.Proofs.YtajejlaoompieaaDoor
