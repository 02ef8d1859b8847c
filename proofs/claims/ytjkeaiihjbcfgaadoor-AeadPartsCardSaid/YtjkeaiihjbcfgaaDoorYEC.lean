/- aead.lengths, and the document's lengths and filling up. -/
import Derived.Test.YtjkeaiihjbcfgaaDoorYEB
import Derived.Lib.Hide
import Derived.Deep.Onto
import Derived.LoopN
import Derived.LoopTactic
import Derived.Laws.OwnMore
namespace Go.Proofs.YtjkeaiihjbcfgaaDoor
set_option linter.unusedVariables false
set_option maxRecDepth 2000
set_option linter.unusedSimpArgs false
open Go.RowKit
/-- the lengths of two parts, in eight bytes each -/
def lenF (n m : Nat) (j : Nat) : Int := if j < 8 then ((n / 2 ^ (8 * j) % 256 : Nat) : Int) else ((m / 2 ^ (8 * (j - 8)) % 256 : Nat) : Int)
theorem in_lenF (n m j : Nat) : inB (lenF n m j) := by
  unfold lenF inB
  split <;> omega
theorem lenF_part (n m k j L : Nat) (hk : k < 2) (hj : j < 8) (hL : L = if k = 0 then n else m) : lenF n m (8 * k + j) = ((L / 2 ^ (8 * j) % 256 : Nat) : Int) := by
  subst hL
  have : k = 0 ∨ k = 1 := by omega
  rcases this with rfl | rfl
  · simp [lenF, hj]
  · rw [lenF, if_neg (by omega), if_neg (by decide), show 8 * 1 + j - 8 = j by omega]
attribute [local go_sem] nums_length

set_option maxHeartbeats 4000000 in
theorem lengths_any (S n m c d : Nat) (p q : Option Addr) (hn : n ≤ 65536) (hm : m ≤ 65536) (w : World) (hS : Has S 0 [.slice p n c, .slice q m d] w) :
    Calls Tryd.prog 25 #[.slice (some ⟨S, 0, none⟩) 2 2] w fun e w' => ∃ v, e = .returned v ∧ w'.ownsRow w.heap.size 5 1 v 16 (nums .u8 (lenF n m) 16) ∧ Below w.heap.size w w' := by
  have HS := Lib.hid hS; have HN := Lib.hid hn; have HM := Lib.hid hm
  clear hS hn hm
  obtain ⟨i0, hi, hz0, hz1, hz2⟩ := infoB_parts
  go_enter Tryd.func25, Tryd.ntmps25
  go_wp2_with (fail)
  go_loopw [3, 9] (fun v iv wr => ∃ (k : Nat) (p3 : Option Addr) (c3 : Nat), k ≤ 2 ∧ v = .slice p3 (8 * k) c3 ∧ iv = .int .i64 k ∧ Hid (wr.ownsRow w.heap.size 5 1 (.slice p3 (8 * k) c3) (8 * k) (nums .u8 (lenF n m) (8 * k))) ∧ Hid (Below w.heap.size w wr)) (fun _ iv _ => (2 - (intOf iv).toNat))
  case atStart => exact ⟨0, none, 0, Nat.zero_le _, rfl, rfl, Lib.hid (World.ownsRow_nil _ _ _ _), Lib.hid (Below.refl _ _)⟩
  case round =>
    obtain ⟨k, p3, c3, hk, rfl, rfl, ROW, HB⟩ := hrel
    by_cases hlt : k < 2
    · obtain ⟨L, q1, c1, hcell, hL, LB⟩ : ∃ L q1 c1, wr.cell? ⟨S, k, none⟩ = some (.slice q1 L c1) ∧ Hid (∀ j, j < 8 → lenF n m (8 * k + j) = ((L / 2 ^ (8 * j) % 256 : Nat) : Int)) ∧ L ≤ 65536 := by
        have hs := HS.out.later HB.out
        have k01 : k = 0 ∨ k = 1 := by omega
        rcases k01 with rfl | rfl
        · exact ⟨n, p, c, hs.at 0 _ rfl, Lib.hid fun j hj => lenF_part n m 0 j n (by omega) hj rfl, HN.out⟩
        · exact ⟨m, q, d, hs.at 1 _ rfl, Lib.hid fun j hj => lenF_part n m 1 j m (by omega) hj rfl, HM.out⟩
      have hki : (k : Int) < 2 := by omega
      have k0 : (0 : Int) ≤ (k : Int) := by omega
      have wk : IntKind.i64.wrap ((k : Int) + 1) = (k : Int) + 1 := IntWalk.i64_in _ (by omega)
      have Sl := (HS.out.later HB.out).lt
      go_wp2_with (fail)
      go_loopw [3, 13] (fun v jv wq => ∃ (j : Nat) (p3 : Option Addr) (c3 : Nat), j ≤ 8 ∧ v = .slice p3 (8 * k + j) c3 ∧ jv = .int .i64 j ∧ Hid (wq.ownsRow w.heap.size 5 1 (.slice p3 (8 * k + j) c3) (8 * k + j) (nums .u8 (lenF n m) (8 * k + j))) ∧ Hid (Below w.heap.size w wq)) (fun _ iv _ => (8 - (intOf iv).toNat))
      case atStart => exact ⟨0, p3, c3, Nat.zero_le _, rfl, rfl, ROW, HB⟩
      case round =>
        clear ROW HB hcell Sl
        obtain ⟨j, p4, c4, hj, rfl, rfl, ROW, HB⟩ := hrel
        by_cases hjt : j < 8
        · have hji : (j : Int) < 8 := by omega
          have j0 : (0 : Int) ≤ (j : Int) := by omega
          have wj : IntKind.i64.wrap ((j : Int) + 1) = (j : Int) + 1 := IntWalk.i64_in _ (by omega)
          have wj8 : IntKind.i64.wrap (8 * (j : Int)) = ((8 * j : Nat) : Int) := by rw [IntWalk.i64_in _ (by omega)]; omega
          obtain ⟨z, ez⟩ : ∃ z : Int, (L : Int) / 2 ^ (8 * j) % 256 = z := ⟨_, rfl⟩
          obtain ⟨t, et⟩ : ∃ t, 8 * k + j = t := ⟨_, rfl⟩
          have XS : Hid (nums .u8 (lenF n m) t ++ [.int .u8 z] = nums .u8 (lenF n m) (t + 1)) := Lib.hid (nums_append .u8 (lenF n m) (fun _ => z) t 1 (fun i hi => by
            obtain rfl : i = 0 := by omega
            rw [Nat.add_zero, ← et, hL.out j hjt, ← ez]
            push_cast
            rfl))
          have ET := Lib.hid et
          have N63 := Lib.hid (show t + 1 ≤ maxLen by unfold maxLen; omega)
          have NBY := Lib.hid (show (t + 1) * 1 ≤ 140737488355328 by omega)
          have HS2 : Hid (w.heap.size ≤ (wr.alloc (.cells #[.int .u8 z] 5)).heap.size) := Lib.hid (Below.al HB.out).size
          rw [et] at ROW ⊢
          clear et hj
          go_wp2_with (at_builtin; refine wpList_append_own _ rfl _ _ 26 rfl w.heap.size 5 i0 (.int .u8 0) 1 1 Tryd.underlying26 hi hz0 hz1 hz2 rfl (by decide) _ (t) _ rfl (row_later ROW.out (Below.al (Below.refl _ _))) ⟨wr.heap.size, 0, none⟩ 1 1 [.int .u8 z] rfl rfl (Own.newAt (by rfl)).news (by intro v hv; cases hv with | head => rfl | tail _ h => nomatch h) N63.out NBY.out HS2.out ?_; intro v' w6 hrow hgr _; obtain ⟨p', c', rfl, _⟩ := row_form hrow; rw [XS.out] at hrow; have o4 := Lib.hid ((Below.al HB.out).grown hgr (Below.al HB.out).size fun q hq => row_ge ROW.out q hq); have o6 := Lib.hid hrow; clear hrow hgr)
          go_roundw
          case rel => (first | exact ⟨j + 1, _, _, by omega, by rw [← Nat.add_assoc, ET.out], by go_num, Lib.hid (by rw [← Nat.add_assoc, ET.out]; exact o6.out), o4⟩ | ((repeat apply Exists.intro); exact ⟨⟨j + 1, _, _, by omega, by rw [← Nat.add_assoc, ET.out], by go_num, Lib.hid (by rw [← Nat.add_assoc, ET.out]; exact o6.out), o4⟩, rfl⟩))
          case measure => simp [intOf]; omega
        · obtain rfl : j = 8 := by omega
          rw [show 8 * k + 8 = 8 * (k + 1) by omega] at ROW ⊢
          go_wp2_with (fail)
          go_roundw
          case rel => (first | exact ⟨k + 1, _, _, by omega, rfl, by go_num, ROW, HB⟩ | ((repeat apply Exists.intro); exact ⟨⟨k + 1, _, _, by omega, rfl, by go_num, ROW, HB⟩, rfl⟩))
          case measure => simp [intOf]; omega
    · obtain rfl : k = 2 := by omega
      go_wp2_with (fail)
      go_ret
      exact ⟨_, rfl, ROW.out, HB.out⟩
def lenB (n j : Nat) : Int := ((n / 2 ^ (8 * j) % 256 : Nat) : Int)
theorem len_next (n j : Nat) : n / 2 ^ (8 * j) / 256 = n / 2 ^ (8 * (j + 1)) := by
  rw [Nat.div_div_eq_div_mul, show 8 * (j + 1) = 8 * j + 8 by omega, Nat.pow_add]
theorem len_last (n j : Nat) : n / 2 ^ (8 * j) ≤ n := Nat.div_le_self _ _

set_option maxHeartbeats 4000000 in
theorem length_any (n : Nat) (hn : n ≤ 65536) (w : World) :
    Calls Tryd.prog 27 #[.int .i64 n] w fun e w' => ∃ v, e = .returned v ∧ w'.ownsRow w.heap.size 5 1 v 8 (nums .u8 (lenB n) 8) ∧ Below w.heap.size w w' := by
  obtain ⟨i0, hi, hz0, hz1, hz2⟩ := infoB_parts
  have HN := Lib.hid hn
  clear hn
  go_enter Tryd.func27, Tryd.ntmps27
  go_wp2_with (fail)
  go_loopw [0, 3, 4] (fun nv v iv wr => ∃ (k x : Nat) (p3 : Option Addr) (c3 : Nat), k ≤ 8 ∧ nv = .int .i64 x ∧ Hid (x = n / 2 ^ (8 * k)) ∧ v = .slice p3 k c3 ∧ iv = .int .i64 k ∧ Hid (wr.ownsRow w.heap.size 5 1 (.slice p3 k c3) k (nums .u8 (lenB n) k)) ∧ Hid (Below w.heap.size w wr)) (fun _ _ iv _ => (8 - (intOf iv).toNat))
  case atStart => exact ⟨0, n, none, 0, Nat.zero_le _, rfl, Lib.hid (by simp), rfl, rfl, Lib.hid (World.ownsRow_nil _ _ _ _), Lib.hid (Below.refl _ _)⟩
  case round =>
    obtain ⟨k, x, p3, c3, hk, rfl, HX, rfl, rfl, ROW, HB⟩ := hrel
    by_cases hlt : k < 8
    · have hki : (k : Int) < 8 := by omega
      have k0 : (0 : Int) ≤ (k : Int) := by omega
      have wk : IntKind.i64.wrap ((k : Int) + 1) = (k : Int) + 1 := IntWalk.i64_in _ (by omega)
      have hx : x ≤ 65536 := by rw [HX.out]; exact Nat.le_trans (len_last n k) HN.out
      obtain ⟨y, ey⟩ : ∃ y, x / 256 = y := ⟨_, rfl⟩
      have m1 : (x : Int).tmod 256 = ((x % 256 : Nat) : Int) := by rw [Int.tmod_eq_emod_of_nonneg (by omega)]; omega
      have d1 : (x : Int).tdiv 256 = (y : Int) := by rw [Int.tdiv_eq_ediv_of_nonneg (by omega)]; omega
      have wy : IntKind.i64.wrap (y : Int) = (y : Int) := IntWalk.i64_in _ (by omega)
      have HY : Hid (y = n / 2 ^ (8 * (k + 1))) := Lib.hid (by rw [← ey, HX.out, len_next])
      obtain ⟨z, ez⟩ : ∃ z : Nat, x % 256 = z := ⟨_, rfl⟩
      have hz : z < 256 := by omega
      rw [ez] at m1
      have wz : IntKind.i64.wrap (z : Int) = (z : Int) := IntWalk.i64_in _ (by omega)
      have wz8 : IntKind.u8.wrap (z : Int) = (z : Int) := by rw [IntKind.wrap_u8']; omega
      have XS : Hid (nums .u8 (lenB n) k ++ [.int .u8 z] = nums .u8 (lenB n) (k + 1)) := Lib.hid (nums_append .u8 (lenB n) (fun _ => z) k 1 (fun i hi => by
        obtain rfl : i = 0 := by omega
        rw [Nat.add_zero, ← ez, HX.out]
        rfl))
      have N63 := Lib.hid (show k + 1 ≤ maxLen by unfold maxLen; omega)
      have NBY := Lib.hid (show (k + 1) * 1 ≤ 140737488355328 by omega)
      have HS2 : Hid (w.heap.size ≤ (wr.alloc (.cells #[.int .u8 z] 5)).heap.size) := Lib.hid (Below.al HB.out).size
      have zm : (z : Int) % 256 = (z : Int) := by omega
      clear hk ey ez hx hz HX
      go_wp2_with (at_builtin; refine wpList_append_own _ rfl _ _ 26 rfl w.heap.size 5 i0 (.int .u8 0) 1 1 Tryd.underlying26 hi hz0 hz1 hz2 rfl (by decide) _ (k) _ rfl (row_later ROW.out (Below.al (Below.refl _ _))) ⟨wr.heap.size, 0, none⟩ 1 1 [.int .u8 z] rfl rfl (Own.newAt (by rfl)).news (by intro v hv; cases hv with | head => rfl | tail _ h => nomatch h) N63.out NBY.out HS2.out ?_; intro v' w6 hrow hgr _; obtain ⟨p', c', rfl, _⟩ := row_form hrow; rw [XS.out] at hrow; have o4 := Lib.hid ((Below.al HB.out).grown hgr (Below.al HB.out).size fun q hq => row_ge ROW.out q hq); have o6 := Lib.hid hrow; clear hrow hgr)
      go_roundw
      case rel => (first | exact ⟨k + 1, y, _, _, by omega, rfl, HY, rfl, by go_num, o6, o4⟩ | ((repeat apply Exists.intro); exact ⟨⟨k + 1, y, _, _, by omega, rfl, HY, rfl, by go_num, o6, o4⟩, rfl⟩))
      case measure => simp [intOf]; omega
    · obtain rfl : k = 8 := by omega
      go_wp2_with (fail)
      go_ret
      exact ⟨_, rfl, ROW.out, HB.out⟩
end Go.Proofs.YtjkeaiihjbcfgaaDoor
