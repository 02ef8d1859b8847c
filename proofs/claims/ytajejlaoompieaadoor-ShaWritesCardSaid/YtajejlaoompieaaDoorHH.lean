/- The document's Pad. -/
import Derived.Test.YtajejlaoompieaaDoorHG
import Derived.Lib.Hide
import Derived.LoopN
import Derived.LoopTactic
import Derived.Deep.Onto
import Derived.Laws.OwnMore
namespace Go.Proofs.YtajejlaoompieaaDoor
set_option linter.unusedVariables false
set_option maxRecDepth 2000
set_option linter.unusedSimpArgs false
open Go.RowKit
theorem pad_low (n k : Nat) (hk : k < zer n) : nums .u8 (padF n) (1 + k) ++ [.int .u8 0] = nums .u8 (padF n) (1 + (k + 1)) := nums_append .u8 (padF n) (fun _ => 0) (1 + k) 1 fun j hj => by
  obtain rfl : j = 0 := by omega
  unfold padF
  rw [if_neg (by omega), if_pos (by omega)]
theorem pad_high (n i : Nat) (hi : i < 8) (v : Int) (hv : v = padF n (1 + zer n + i)) : nums .u8 (padF n) (1 + zer n + i) ++ [.int .u8 v] = nums .u8 (padF n) (1 + zer n + (i + 1)) := nums_append .u8 (padF n) (fun _ => v) (1 + zer n + i) 1 fun j hj => by
  obtain rfl : j = 0 := by omega
  rw [Nat.add_zero, hv]

set_option maxHeartbeats 4000000 in
theorem RPad_any (n : Int) (N : Nat) (e1 : max n 0 = (N : Int)) (hN : N ≤ 9223372036854775807) (w : World) :
    Calls Tryd.prog 12 #[.int .i64 n] w fun e w' => ∃ v, e = .returned v ∧ w'.ownsRow w.heap.size 5 1 v (plen N) (nums .u8 (padF N) (plen N)) ∧ Below w.heap.size w w' := by
  obtain ⟨i0, hi, hz0, hz1, hz2⟩ := infoB_parts
  have HN := Lib.hid hN
  obtain ⟨L, eL⟩ : ∃ L, plen N = L := ⟨_, rfl⟩
  obtain ⟨z, ez⟩ : ∃ z, zer N = z := ⟨_, rfl⟩
  have EL := Lib.hid (show L = 9 + z by rw [← eL, ← ez]; rfl)
  have EPL := Lib.hid eL
  have EZ := Lib.hid ez
  have hz := Lib.hid (ez ▸ zer_lt N)
  obtain ⟨r, er⟩ : ∃ r, N % 64 = r := ⟨_, rfl⟩
  have ER := Lib.hid (show z = (119 - r) % 64 ∧ r < 64 by rw [← ez, ← er]; exact ⟨rfl, Nat.mod_lt _ (by decide)⟩)
  have m1 : (N : Int).tmod 64 = (r : Int) := by rw [Int.tmod_eq_emod_of_nonneg (by omega)]; omega
  have m1' : (N : Int) % 64 = (r : Int) := by omega
  have wr1 : IntKind.i64.wrap (r : Int) = (r : Int) := IntWalk.i64_in _ (by have := ER.out; omega)
  have u1 : IntKind.u64.wrap (N : Int) = (N : Int) := by rw [IntKind.wrap_u64]; omega
  have u1' : (N : Int) % 18446744073709551616 = (N : Int) := by omega
  obtain ⟨lw, el⟩ : ∃ lw, lenW N = lw := ⟨_, rfl⟩
  have u2 : (N : Int) * 8 % 18446744073709551616 = lw := by rw [Int.mul_comm]; exact el
  have u3 : IntKind.u64.wrap ((N : Int) * 8) = lw := (IntKind.wrap_u64 _).trans u2
  have ELW := Lib.hid el
  clear ez er el eL hN
  go_enter Tryd.func12, Tryd.ntmps12
  by_cases hneg : n < 0
  · have g1 : decide (n < 0) = true := decide_eq_true hneg
    have EN := Lib.hid (show N = 0 by omega)
    replace ELW : Hid (lenW N = 0) := Lib.hid (by rw [EN.out]; rfl)
    replace ER : Hid (z = (119 - 0) % 64) := Lib.hid (by rw [← EZ.out, EN.out]; rfl)
    clear m1 m1' wr1 u1 u1' u2 u3 hneg e1
    go_wp2_with (fail)
    go_loopw [3] (fun v wr => ∃ (k t : Nat) (p3 : Option Addr) (c3 : Nat), k ≤ z ∧ 1 + k = t ∧ v = .slice p3 t c3 ∧ Hid (wr.ownsRow w.heap.size 5 1 (.slice p3 t c3) t (nums .u8 (padF N) t)) ∧ Hid (Below w.heap.size w wr)) (fun v _ => (1 + z - slLen v))
    case atStart => exact ⟨0, 1, _, _, Nat.zero_le _, rfl, rfl, Lib.hid (World.ownsRow_lit w #[.int .u8 128] 1 (Nat.le_refl _) (by decide) rfl), Lib.hid (Below.al (Below.refl _ _))⟩
    case round =>
      obtain ⟨k, t, p3, c3, hk, et, rfl, ROW, HB⟩ := hrel
      obtain ⟨a, ea⟩ : ∃ a, 0 + t = a := ⟨_, rfl⟩
      obtain ⟨b, eb⟩ : ∃ b, a + 8 = b := ⟨_, rfl⟩
      obtain ⟨c, ec⟩ : ∃ c, b % 64 = c := ⟨_, rfl⟩
      rw [Nat.zero_add] at ea
      subst ea
      have q2 : (t : Int) + 8 = (b : Int) := by omega
      have q3 : (b : Int).tmod 64 = (c : Int) := by rw [Int.tmod_eq_emod_of_nonneg (by omega)]; omega
      have q3' : (b : Int) % 64 = (c : Int) := by omega
      have hz64 := hz.out
      have w1 : IntKind.i64.wrap (t : Int) = (t : Int) := IntWalk.i64_in _ (by have := ER.out; omega)
      have w2 : IntKind.i64.wrap (b : Int) = (b : Int) := IntWalk.i64_in _ (by have := ER.out; omega)
      have w3 : IntKind.i64.wrap (c : Int) = (c : Int) := IntWalk.i64_in _ (by omega)
      have wt : IntKind.i64.wrap (t : Int) = (t : Int) := IntWalk.i64_in _ (by omega)
      by_cases hlt : k < z
      · have g1_ : decide (0 < c) = true := decide_eq_true (by have := ER.out; omega)
        have g2_ : decide ((0 : Int) < (c : Int)) = true := decide_eq_true (by have := ER.out; omega)
        have XS := Lib.hid (pad_low N k (by have := EZ.out; omega))
        rw [et] at XS
        have et2 := Lib.hid (show 1 + (k + 1) = t + 1 by omega)
        rw [et2.out] at XS
        have N63 := Lib.hid (show t + 1 ≤ maxLen by unfold maxLen; omega)
        have NBY := Lib.hid (show (t + 1) * 1 ≤ 140737488355328 by omega)
        have HS2 : Hid (w.heap.size ≤ (wr.alloc (.cells #[.int .u8 0] 5)).heap.size) := Lib.hid (Below.al HB.out).size
        have HLT := Lib.hid hlt
        have ET := Lib.hid et
        clear hlt hk eb ec et hz64
        go_wp2_with (at_builtin; refine wpList_append_own _ rfl _ _ 23 rfl w.heap.size 5 i0 (.int .u8 0) 1 1 Tryd.underlying23 hi hz0 hz1 hz2 rfl (by decide) _ (t) _ rfl (row_later ROW.out (Below.al (Below.refl _ _))) ⟨wr.heap.size, 0, none⟩ 1 1 [.int .u8 0] rfl rfl (Own.newAt (by rfl)).news (by intro v hv; cases hv with | head => rfl | tail _ h => nomatch h) N63.out NBY.out HS2.out ?_; intro v' w6 hrow hgr _; obtain ⟨p', c', rfl, _⟩ := row_form hrow; rw [XS.out] at hrow; have o4 := Lib.hid ((Below.al HB.out).grown hgr (Below.al HB.out).size fun q hq => row_ge ROW.out q hq); have o6 := Lib.hid hrow; clear hrow hgr)
        go_roundw
        case rel => (first | exact ⟨k + 1, t + 1, _, _, HLT.out, et2.out, rfl, o6, o4⟩ | ((repeat apply Exists.intro); exact ⟨⟨k + 1, t + 1, _, _, HLT.out, et2.out, rfl, o6, o4⟩, rfl⟩))
        case measure => (have := HLT.out; have := ET.out; simp [slLen]; omega)
      · have g1_ : decide (0 < c) = false := decide_eq_false (by have := ER.out; omega)
        have g2_ : decide ((0 : Int) < (c : Int)) = false := decide_eq_false (by have := ER.out; omega)
        have g3_ : ¬ (0 < c) := by have := ER.out; omega
        obtain rfl : k = z := by omega
        have ET := Lib.hid et
        clear hlt hk eb hz64 et
        replace ec := Lib.hid ec
        go_wp2_with (fail)
        go_loopw [3, 5] (fun v iv wr => ∃ (i t : Nat) (p3 : Option Addr) (c3 : Nat), i ≤ 8 ∧ 1 + zer N + i = t ∧ v = .slice p3 t c3 ∧ iv = .int .i64 (7 - (i : Int)) ∧ Hid (wr.ownsRow w.heap.size 5 1 (.slice p3 t c3) t (nums .u8 (padF N) t)) ∧ Hid (Below w.heap.size w wr)) (fun _ iv _ => (intOf iv + 1).toNat)
        case atStart => exact ⟨0, t, _, _, Nat.zero_le _, by rw [EZ.out]; exact ET.out, rfl, rfl, ROW, HB⟩
        case round =>
          clear ROW HB ET
          obtain ⟨i, t2, p4, c4, hi8, et, rfl, rfl, ROW, HB⟩ := hrel
          by_cases hlt : i < 8
          · have PL := padF_len N i hlt
            have PH := Lib.hid (pad_high N i hlt)
            rw [et] at PL
            rw [show 1 + zer N + (i + 1) = t2 + 1 by omega, et] at PH
            obtain ⟨m, em⟩ : ∃ m, 7 - i = m := ⟨_, rfl⟩
            obtain ⟨p, ep⟩ : ∃ p, 8 * m = p := ⟨_, rfl⟩
            rw [show 56 - 8 * i = p by omega, ELW.out, show ((2 ^ p : Nat) : Int) = (2 : Int) ^ p by push_cast; rfl] at PL
            rw [show (7 : Int) - (i : Int) = (m : Int) by omega]
            have PL0 : padF N t2 = 0 := by rw [PL]; simp
            have XS := Lib.hid (PH.out 0 PL0.symm)
            have s1 : 8 * (m : Int) = (p : Int) := by omega
            have hm7 : m ≤ 7 := by omega
            have wp : IntKind.i64.wrap (p : Int) = (p : Int) := IntWalk.i64_in _ (by omega)
            have wm1 : IntKind.i64.wrap ((m : Int) - 1) = (m : Int) - 1 := IntWalk.i64_in _ (by omega)
            have mm : min p 64 = p := by omega
            have p0 : (0 : Int) ≤ (p : Int) := by omega
            have m0 : (0 : Int) ≤ (m : Int) := by omega
            have et2 := Lib.hid (show 1 + zer N + (i + 1) = t2 + 1 by omega)
            have EM := Lib.hid (show (m : Int) - 1 = 7 - ((i + 1 : Nat) : Int) by omega)
            have N63 := Lib.hid (show t2 + 1 ≤ maxLen by unfold maxLen; have := zer_lt N; omega)
            have NBY := Lib.hid (show (t2 + 1) * 1 ≤ 140737488355328 by have := zer_lt N; omega)
            have HS2 : Hid (w.heap.size ≤ (wr.alloc (.cells #[.int .u8 0] 5)).heap.size) := Lib.hid (Below.al HB.out).size
            have HLT := Lib.hid hlt
            clear hlt hi8 et em ep PL PH
            go_wp2_with (at_builtin; refine wpList_append_own _ rfl _ _ 23 rfl w.heap.size 5 i0 (.int .u8 0) 1 1 Tryd.underlying23 hi hz0 hz1 hz2 rfl (by decide) _ (t2) _ rfl (row_later ROW.out (Below.al (Below.refl _ _))) ⟨wr.heap.size, 0, none⟩ 1 1 [.int .u8 0] rfl rfl (Own.newAt (by rfl)).news (by intro v hv; cases hv with | head => rfl | tail _ h => nomatch h) N63.out NBY.out HS2.out ?_; intro v' w6 hrow hgr _; obtain ⟨p', c', rfl, _⟩ := row_form hrow; rw [XS.out] at hrow; have o4 := Lib.hid ((Below.al HB.out).grown hgr (Below.al HB.out).size fun q hq => row_ge ROW.out q hq); have o6 := Lib.hid hrow; clear hrow hgr)
            go_roundw
            case rel => (first | exact ⟨i + 1, t2 + 1, _, _, HLT.out, et2.out, rfl, by rw [EM.out], o6, o4⟩ | ((repeat apply Exists.intro); exact ⟨⟨i + 1, t2 + 1, _, _, HLT.out, et2.out, rfl, by rw [EM.out], o6, o4⟩, rfl⟩))
            case measure => (first | (simp [intOf]; done) | (simp [intOf]; omega))
          · obtain rfl : i = 8 := by omega
            rw [show (7 : Int) - ((8 : Nat) : Int) = -1 by decide]
            have g4_ : decide ((0 : Int) ≤ -1) = false := by decide
            go_wp2_with (fail)
            go_ret
            refine ⟨_, rfl, ?_, HB.out⟩
            have h := ROW.out
            rw [show t2 = plen N by have := EPL.out; have := EL.out; have := EZ.out; omega] at h ⊢
            exact h
  · have g1 : decide (n < 0) = false := decide_eq_false hneg
    obtain rfl : n = (N : Int) := by omega
    clear hneg e1
    go_wp2_with (fail)

    go_loopw [3] (fun v wr => ∃ (k t : Nat) (p3 : Option Addr) (c3 : Nat), k ≤ z ∧ 1 + k = t ∧ v = .slice p3 t c3 ∧ Hid (wr.ownsRow w.heap.size 5 1 (.slice p3 t c3) t (nums .u8 (padF N) t)) ∧ Hid (Below w.heap.size w wr)) (fun v _ => (1 + z - slLen v))
    case atStart => exact ⟨0, 1, _, _, Nat.zero_le _, rfl, rfl, Lib.hid (World.ownsRow_lit w #[.int .u8 128] 1 (Nat.le_refl _) (by decide) rfl), Lib.hid (Below.al (Below.refl _ _))⟩
    case round =>
      obtain ⟨k, t, p3, c3, hk, et, rfl, ROW, HB⟩ := hrel
      obtain ⟨a, ea⟩ : ∃ a, r + t = a := ⟨_, rfl⟩
      obtain ⟨b, eb⟩ : ∃ b, a + 8 = b := ⟨_, rfl⟩
      obtain ⟨c, ec⟩ : ∃ c, b % 64 = c := ⟨_, rfl⟩
      have q1 : (r : Int) + (t : Int) = (a : Int) := by omega
      have q2 : (a : Int) + 8 = (b : Int) := by omega
      have q3 : (b : Int).tmod 64 = (c : Int) := by rw [Int.tmod_eq_emod_of_nonneg (by omega)]; omega
      have q3' : (b : Int) % 64 = (c : Int) := by omega
      have hz64 := hz.out
      have w1 : IntKind.i64.wrap (a : Int) = (a : Int) := IntWalk.i64_in _ (by have := ER.out; omega)
      have w2 : IntKind.i64.wrap (b : Int) = (b : Int) := IntWalk.i64_in _ (by have := ER.out; omega)
      have w3 : IntKind.i64.wrap (c : Int) = (c : Int) := IntWalk.i64_in _ (by omega)
      have wt : IntKind.i64.wrap (t : Int) = (t : Int) := IntWalk.i64_in _ (by omega)
      by_cases hlt : k < z
      · have g1_ : decide (0 < c) = true := decide_eq_true (by have := ER.out; omega)
        have g2_ : decide ((0 : Int) < (c : Int)) = true := decide_eq_true (by have := ER.out; omega)
        have XS := Lib.hid (pad_low N k (by have := EZ.out; omega))
        rw [et] at XS
        have et2 := Lib.hid (show 1 + (k + 1) = t + 1 by omega)
        rw [et2.out] at XS
        have N63 := Lib.hid (show t + 1 ≤ maxLen by unfold maxLen; omega)
        have NBY := Lib.hid (show (t + 1) * 1 ≤ 140737488355328 by omega)
        have HS2 : Hid (w.heap.size ≤ (wr.alloc (.cells #[.int .u8 0] 5)).heap.size) := Lib.hid (Below.al HB.out).size
        have HLT := Lib.hid hlt
        have ET := Lib.hid et
        clear hlt hk ea eb ec et hz64
        go_wp2_with (at_builtin; refine wpList_append_own _ rfl _ _ 23 rfl w.heap.size 5 i0 (.int .u8 0) 1 1 Tryd.underlying23 hi hz0 hz1 hz2 rfl (by decide) _ (t) _ rfl (row_later ROW.out (Below.al (Below.refl _ _))) ⟨wr.heap.size, 0, none⟩ 1 1 [.int .u8 0] rfl rfl (Own.newAt (by rfl)).news (by intro v hv; cases hv with | head => rfl | tail _ h => nomatch h) N63.out NBY.out HS2.out ?_; intro v' w6 hrow hgr _; obtain ⟨p', c', rfl, _⟩ := row_form hrow; rw [XS.out] at hrow; have o4 := Lib.hid ((Below.al HB.out).grown hgr (Below.al HB.out).size fun q hq => row_ge ROW.out q hq); have o6 := Lib.hid hrow; clear hrow hgr)
        go_roundw
        case rel => (first | exact ⟨k + 1, t + 1, _, _, HLT.out, et2.out, rfl, o6, o4⟩ | ((repeat apply Exists.intro); exact ⟨⟨k + 1, t + 1, _, _, HLT.out, et2.out, rfl, o6, o4⟩, rfl⟩))
        case measure => (have := HLT.out; have := ET.out; simp [slLen]; omega)
      · have g1_ : decide (0 < c) = false := decide_eq_false (by have := ER.out; omega)
        have g2_ : decide ((0 : Int) < (c : Int)) = false := decide_eq_false (by have := ER.out; omega)
        have g3_ : ¬ (0 < c) := by have := ER.out; omega
        obtain rfl : k = z := by omega
        have ET := Lib.hid et
        clear hlt hk ea eb hz64 et
        replace ec := Lib.hid ec
        go_wp2_with (fail)
        go_loopw [3, 5] (fun v iv wr => ∃ (i t : Nat) (p3 : Option Addr) (c3 : Nat), i ≤ 8 ∧ 1 + zer N + i = t ∧ v = .slice p3 t c3 ∧ iv = .int .i64 (7 - (i : Int)) ∧ Hid (wr.ownsRow w.heap.size 5 1 (.slice p3 t c3) t (nums .u8 (padF N) t)) ∧ Hid (Below w.heap.size w wr)) (fun _ iv _ => (intOf iv + 1).toNat)
        case atStart => exact ⟨0, t, _, _, Nat.zero_le _, by rw [EZ.out]; exact ET.out, rfl, rfl, ROW, HB⟩
        case round =>
          clear ROW HB ET
          obtain ⟨i, t2, p4, c4, hi8, et, rfl, rfl, ROW, HB⟩ := hrel
          by_cases hlt : i < 8
          · have PL := padF_len N i hlt
            have PH := Lib.hid (pad_high N i hlt)
            rw [et] at PL
            rw [show 1 + zer N + (i + 1) = t2 + 1 by omega, et] at PH
            obtain ⟨m, em⟩ : ∃ m, 7 - i = m := ⟨_, rfl⟩
            obtain ⟨p, ep⟩ : ∃ p, 8 * m = p := ⟨_, rfl⟩
            rw [show 56 - 8 * i = p by omega, ELW.out, show ((2 ^ p : Nat) : Int) = (2 : Int) ^ p by push_cast; rfl] at PL
            rw [show (7 : Int) - (i : Int) = (m : Int) by omega]
            obtain ⟨q, eq⟩ : ∃ q, lw / (2 : Int) ^ p = q := ⟨_, rfl⟩
            rw [eq] at PL
            obtain ⟨v, ev⟩ : ∃ v, q % 256 = v := ⟨_, rfl⟩
            rw [ev] at PL
            have gv : IntKind.u8.wrap q = v := (IntKind.wrap_u8' _).trans ev
            have XS := Lib.hid (PH.out v PL.symm)
            have s1 : 8 * (m : Int) = (p : Int) := by omega
            have hm7 : m ≤ 7 := by omega
            have wp : IntKind.i64.wrap (p : Int) = (p : Int) := IntWalk.i64_in _ (by omega)
            have wm1 : IntKind.i64.wrap ((m : Int) - 1) = (m : Int) - 1 := IntWalk.i64_in _ (by omega)
            have mm : min p 64 = p := by omega
            have p0 : (0 : Int) ≤ (p : Int) := by omega
            have m0 : (0 : Int) ≤ (m : Int) := by omega
            have et2 := Lib.hid (show 1 + zer N + (i + 1) = t2 + 1 by omega)
            have EM := Lib.hid (show (m : Int) - 1 = 7 - ((i + 1 : Nat) : Int) by omega)
            have N63 := Lib.hid (show t2 + 1 ≤ maxLen by unfold maxLen; have := zer_lt N; omega)
            have NBY := Lib.hid (show (t2 + 1) * 1 ≤ 140737488355328 by have := zer_lt N; omega)
            have HS2 : Hid (w.heap.size ≤ (wr.alloc (.cells #[.int .u8 v] 5)).heap.size) := Lib.hid (Below.al HB.out).size
            have HLT := Lib.hid hlt
            clear hlt hi8 et em ep PL PH
            go_wp2_with (at_builtin; refine wpList_append_own _ rfl _ _ 23 rfl w.heap.size 5 i0 (.int .u8 0) 1 1 Tryd.underlying23 hi hz0 hz1 hz2 rfl (by decide) _ (t2) _ rfl (row_later ROW.out (Below.al (Below.refl _ _))) ⟨wr.heap.size, 0, none⟩ 1 1 [.int .u8 v] rfl rfl (Own.newAt (by rfl)).news (by intro v hv; cases hv with | head => rfl | tail _ h => nomatch h) N63.out NBY.out HS2.out ?_; intro v' w6 hrow hgr _; obtain ⟨p', c', rfl, _⟩ := row_form hrow; rw [XS.out] at hrow; have o4 := Lib.hid ((Below.al HB.out).grown hgr (Below.al HB.out).size fun q hq => row_ge ROW.out q hq); have o6 := Lib.hid hrow; clear hrow hgr)
            go_roundw
            case rel => (first | exact ⟨i + 1, t2 + 1, _, _, HLT.out, et2.out, rfl, by rw [EM.out], o6, o4⟩ | ((repeat apply Exists.intro); exact ⟨⟨i + 1, t2 + 1, _, _, HLT.out, et2.out, rfl, by rw [EM.out], o6, o4⟩, rfl⟩))
            case measure => (first | (simp [intOf]; done) | (simp [intOf]; omega))
          · obtain rfl : i = 8 := by omega
            rw [show (7 : Int) - ((8 : Nat) : Int) = -1 by decide]
            have g4_ : decide ((0 : Int) ≤ -1) = false := by decide
            go_wp2_with (fail)
            go_ret
            refine ⟨_, rfl, ?_, HB.out⟩
            have h := ROW.out
            rw [show t2 = plen N by have := EPL.out; have := EL.out; have := EZ.out; omega] at h ⊢
            exact h
end Go.Proofs.YtajejlaoompieaaDoor
