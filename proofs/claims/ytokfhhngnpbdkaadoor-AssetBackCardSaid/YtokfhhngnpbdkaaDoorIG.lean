/- asset: equal. -/
import Derived.Test.YtokfhhngnpbdkaaDoorIF
import Derived.Test.YtokfhhngnpbdkaaDoorTXA
import Derived.Lib.Hide
import Derived.LoopN
import Derived.LoopTactic
import Derived.Deep.Onto
import Derived.Deep.RegionHeld3
import Derived.Deep.QuietTactic
import Derived.BigQuiet
import Derived.Great.BuildSlice
import Derived.StillTailTactics
import Derived.Lib.SliceRun
namespace Go.Proofs.YtokfhhngnpbdkaaDoor
set_option linter.unusedVariables false
set_option maxRecDepth 2000
set_option linter.unusedSimpArgs false
open Go.RowKit
theorem eqlP (a0 a1 a2 b0 b1 b2 : Int) (w : World) : (binOp .eql 33 (.agg #[.int .i64 a0, .int .i64 a1, .int .i64 a2]) (.agg #[.int .i64 b0, .int .i64 b1, .int .i64 b2])).run Tryd.prog w = .ok (.bool (eq3B a0 a1 a2 b0 b1 b2)) w := by
  unfold eq3B
  by_cases x : a0 = b0 <;> by_cases y : a1 = b1 <;> by_cases z : a2 = b2 <;> simp [x, y, z, go_sem]
theorem neqlP (a0 a1 a2 b0 b1 b2 : Int) (w : World) : (binOp .neq 33 (.agg #[.int .i64 a0, .int .i64 a1, .int .i64 a2]) (.agg #[.int .i64 b0, .int .i64 b1, .int .i64 b2])).run Tryd.prog w = .ok (.bool (!eq3B a0 a1 a2 b0 b1 b2)) w := by
  unfold eq3B
  by_cases x : a0 = b0 <;> by_cases y : a1 = b1 <;> by_cases z : a2 = b2 <;> simp [x, y, z, go_sem]
theorem eql2 (a0 a1 b0 b1 : Int) (w : World) : (Op.equalIn 10000 91 (.agg #[.int .i64 a0, .int .i64 a1]) (.agg #[.int .i64 b0, .int .i64 b1])).run Tryd.prog w = .ok (decide (a0 = b0 ∧ a1 = b1)) w := by
  unfold Op.equalIn
  by_cases h0 : a0 = b0 <;> by_cases h1 : a1 = b1 <;> simp [run_underlying Tryd.underlying91, go_sem, List.range', h0, h1]
def eq2B (a0 a1 b0 b1 : Int) : Bool := decide (a0 = b0 ∧ a1 = b1)
theorem neqlU (a0 a1 b0 b1 : Int) (w : World) : (binOp .neq 91 (.agg #[.int .i64 a0, .int .i64 a1]) (.agg #[.int .i64 b0, .int .i64 b1])).run Tryd.prog w = .ok (.bool (!eq2B a0 a1 b0 b1)) w := by
  have h := eql2 a0 a1 b0 b1 w
  unfold eq2B
  simp [go_sem, h]
theorem eq2B_iff {a0 a1 b0 b1 : Int} : eq2B a0 a1 b0 b1 = true ↔ a0 = b0 ∧ a1 = b1 := decide_eq_true_iff
/-- elements k of s numbers each are equal -/
def el3 (f g : Nat → Int) (k : Nat) : Bool := eq3B (f (k * 3)) (f (k * 3 + 1)) (f (k * 3 + 2)) (g (k * 3)) (g (k * 3 + 1)) (g (k * 3 + 2))
def el2 (f g : Nat → Int) (k : Nat) : Bool := eq2B (f (k * 2)) (f (k * 2 + 1)) (g (k * 2)) (g (k * 2 + 1))
def eqS3 (n m : Nat) (f g : Nat → Int) : Bool := decide (n = m) && allB (el3 f g) n
def eqS2 (n m : Nat) (f g : Nat → Int) : Bool := decide (n = m) && allB (el2 f g) n
theorem eqS3_iff {n m : Nat} {f g : Nat → Int} : eqS3 n m f g = true ↔ n = m ∧ ∀ j, j < n * 3 → f j = g j := by
  unfold eqS3
  rw [Bool.and_eq_true, decide_eq_true_eq, allB_iff]
  constructor
  · rintro ⟨e, h⟩
    refine ⟨e, fun j hj => ?_⟩
    have hk := eq3B_iff.1 (h (j / 3) (by omega))
    have h3 : j = j / 3 * 3 + j % 3 := by omega
    have h4 : j % 3 < 3 := by omega
    generalize j / 3 = a at *
    generalize j % 3 = r at *
    subst h3
    match r, h4 with
    | 0, _ => exact hk.1
    | 1, _ => exact hk.2.1
    | 2, _ => exact hk.2.2
  · rintro ⟨e, h⟩
    exact ⟨e, fun k hk => eq3B_iff.2 ⟨h _ (by omega), h _ (by omega), h _ (by omega)⟩⟩
theorem eqS2_iff {n m : Nat} {f g : Nat → Int} : eqS2 n m f g = true ↔ n = m ∧ ∀ j, j < n * 2 → f j = g j := by
  unfold eqS2
  rw [Bool.and_eq_true, decide_eq_true_eq, allB_iff]
  constructor
  · rintro ⟨e, h⟩
    refine ⟨e, fun j hj => ?_⟩
    have hk := eq2B_iff.1 (h (j / 2) (by omega))
    have h3 : j = j / 2 * 2 + j % 2 := by omega
    have h4 : j % 2 < 2 := by omega
    generalize j / 2 = a at *
    generalize j % 2 = r at *
    subst h3
    match r, h4 with
    | 0, _ => exact hk.1
    | 1, _ => exact hk.2
  · rintro ⟨e, h⟩
    exact ⟨e, fun k hk => eq2B_iff.2 ⟨h _ (by omega), h _ (by omega)⟩⟩
theorem eqS3_yes {n m : Nat} {f g : Nat → Int} (e : n = m) (h : ∀ j, j < n → el3 f g j = true) : eqS3 n m f g = true := by unfold eqS3; rw [Bool.and_eq_true, decide_eq_true_eq, allB_iff]; exact ⟨e, h⟩
theorem eqS2_yes {n m : Nat} {f g : Nat → Int} (e : n = m) (h : ∀ j, j < n → el2 f g j = true) : eqS2 n m f g = true := by unfold eqS2; rw [Bool.and_eq_true, decide_eq_true_eq, allB_iff]; exact ⟨e, h⟩
theorem eqS3_len {n m : Nat} {f g : Nat → Int} (e : n ≠ m) : eqS3 n m f g = false := by unfold eqS3; rw [decide_eq_false e]; rfl
theorem eqS2_len {n m : Nat} {f g : Nat → Int} (e : n ≠ m) : eqS2 n m f g = false := by unfold eqS2; rw [decide_eq_false e]; rfl
theorem eqS3_no {n m k : Nat} {f g : Nat → Int} (hk : k < n) (h : el3 f g k = false) : eqS3 n m f g = false := by unfold eqS3; rw [allB_not hk h, Bool.and_false]
theorem eqS2_no {n m k : Nat} {f g : Nat → Int} (hk : k < n) (h : el2 f g k = false) : eqS2 n m f g = false := by unfold eqS2; rw [allB_not hk h, Bool.and_false]
attribute [local go_sem ↓] neqlP
set_option maxHeartbeats 4000000 in
theorem EqP_any (q : Option Addr) (n c : Nat) (f : Nat → Int) (p : Option Addr) (m d : Nat) (g : Nat → Int) (hn : n ≤ 100000) (w : World) (hq : NmS w 3 q n f) (hp : NmS w 3 p m g) :
    Calls Tryd.prog 45 #[.slice q n c, .slice p m d] w fun e w' => e = .returned (.bool (eqS3 n m f g)) ∧ Below w.heap.size w w' := by
  have HN := Lib.hid hn; have HQ := Lib.hid hq; have HP := Lib.hid hp
  obtain ⟨b, eb⟩ : ∃ b, eqS3 n m f g = b := ⟨_, rfl⟩
  have EB := Lib.hid eb
  rw [eb]
  clear hn hq hp eb
  go_enter Tryd.func45, Tryd.ntmps45
  by_cases e : n = m
  · subst e
    go_wp2_with (fail)
    go_loopw [5, 6, 14] (fun _ _ iv wr => ∃ (k : Nat), k ≤ n ∧ iv = .int .i64 k ∧ Hid (∀ j, j < k → el3 f g j = true) ∧ Hid (Below w.heap.size w wr)) (fun _ _ iv _ => (n - (intOf iv).toNat))
    case atStart => exact ⟨0, Nat.zero_le _, rfl, Lib.hid (fun j hj => absurd hj (Nat.not_lt_zero j)), Lib.hid (Below.refl _ _)⟩
    case round =>
      obtain ⟨k, hk, rfl, ALL, HB⟩ := hrel
      by_cases hlt : k < n
      · obtain ⟨D, o, rfl, hD, c0, c1, c2⟩ := (HQ.out.later HB.out).at3 hlt
        obtain ⟨D2, o2, rfl, hD2, d0, d1, d2⟩ := (HP.out.later HB.out).at3 hlt
        have hki : (k : Int) < (n : Int) := by omega
        have k0 : (0 : Int) ≤ (k : Int) := by omega
        have wk : IntKind.i64.wrap ((k : Int) + 1) = (k : Int) + 1 := IntWalk.i64_in _ (by have := HN.out; omega)
        have HLT := Lib.hid hlt
        obtain ⟨u, eu⟩ : ∃ u, el3 f g k = u := ⟨_, rfl⟩
        have EU := Lib.hid eu
        unfold el3 at eu
        generalize f (k * 3) = x0 at c0 eu
        generalize f (k * 3 + 1) = x1 at c1 eu
        generalize f (k * 3 + 2) = x2 at c2 eu
        generalize g (k * 3) = y0 at d0 eu
        generalize g (k * 3 + 1) = y1 at d1 eu
        generalize g (k * 3 + 2) = y2 at d2 eu
        clear hk hlt
        go_upto_region 6 with fail
        obtain ⟨Vw, hW⟩ : ∃ Vw, Vw = (wr.alloc (.cells #[.int .i64 x0, .int .i64 x1, .int .i64 x2] 33)) := ⟨_, rfl⟩
        have hBx : Below wr.heap.size wr Vw := hW ▸ (Below.al (Below.refl _ _))
        have HE : Hid (Own wr.heap.size ([.int .i64 x0, .int .i64 x1, .int .i64 x2]) Vw) := Lib.hid (hW ▸ (show Own wr.heap.size ([.int .i64 x0, .int .i64 x1, .int .i64 x2]) (wr.alloc (.cells #[.int .i64 x0, .int .i64 x1, .int .i64 x2] 33)) from Own.newAt (by simp)))
        rw [← hW]
        clear hW
        obtain ⟨Q, eQ⟩ : ∃ X, X = wr.heap.size := ⟨_, rfl⟩
        rw [← eQ] at HE ⊢
        have Qw : wr.heap.size ≤ Q := by omega
        clear eQ
        have HB_ := Lib.hid (Below.go HB.out hBx)
        have HDD := (Has.later (b := D2) (o := o2 + k * 3) (cs := [.int .i64 y0, .int .i64 y1, .int .i64 y2]) ⟨hD2, fun j v hj => by
          match j, hj with
          | 0, hj => cases hj; exact d0
          | 1, hj => cases hj; exact d1
          | 2, hj => cases hj; exact d2⟩ hBx)
        clear d0 c0 d1 c1 d2 c2 hD hD2 hBx HB Qw
        have d0 := HDD.at 0 _ rfl; have d1 := HDD.at 1 _ rfl; have d2 := HDD.at 2 _ rfl
        rw [Nat.add_zero] at d0
        have hD2 := HDD.lt
        clear HDD
        have oQ := HE.out
        have Q0 := oQ.at 0 _ rfl
        have Q1 := oQ.at 1 _ rfl
        have Q2 := oQ.at 2 _ rfl
        have Ql := oQ.lt
        clear oQ
        go_quiet (fail)
        have hBd : Below Vw.heap.size Vw (Vw.drewN nq) := below_drewN (Below.refl _ _) _
        have HB1 := Lib.hid (Below.go HB_.out hBd)
        clear HB_ hBd hD2 d0 Q0 d1 Q1 d2 Q2 Ql HE
        generalize Vw.drewN nq = z1 at *
        cases u with
        | false =>
          obtain rfl : b = false := EB.out.symm.trans (eqS3_no HLT.out EU.out)
          clear eu ALL
          go_wp2_with (fail)
          go_ret
          exact ⟨rfl, HB1.out⟩
        | true =>
          have ALL2 : Hid (∀ j, j < k + 1 → el3 f g j = true) := Lib.hid fun j hj => (Nat.lt_succ_iff_lt_or_eq.1 hj).elim (ALL.out j) (fun e => by rw [e]; exact EU.out)
          clear eu ALL
          go_wp2_with (fail)
          go_roundw
          case rel => (first | exact ⟨k + 1, HLT.out, by go_num, ALL2, HB1⟩ | ((repeat apply Exists.intro); exact ⟨⟨k + 1, HLT.out, by go_num, ALL2, HB1⟩, rfl⟩))
          case measure => (have := HLT.out; simp [intOf]; omega)
      · obtain rfl : k = n := by omega
        obtain rfl : b = true := EB.out.symm.trans (eqS3_yes rfl ALL.out)
        clear hlt hk ALL
        go_wp2_with (fail)
        go_ret
        exact ⟨rfl, HB.out⟩
  · obtain rfl : b = false := EB.out.symm.trans (eqS3_len e)
    have d0 : ((n : Int) != (m : Int)) = true := by simp; omega
    clear e
    go_wp2_with (fail)
    go_ret
    exact ⟨rfl, Below.refl _ _⟩
attribute [local go_sem ↓] neqlU
set_option maxHeartbeats 4000000 in
theorem EqU_any (q : Option Addr) (n c : Nat) (f : Nat → Int) (p : Option Addr) (m d : Nat) (g : Nat → Int) (hn : n ≤ 100000) (w : World) (hq : NmS w 2 q n f) (hp : NmS w 2 p m g) :
    Calls Tryd.prog 46 #[.slice q n c, .slice p m d] w fun e w' => e = .returned (.bool (eqS2 n m f g)) ∧ Below w.heap.size w w' := by
  have HN := Lib.hid hn; have HQ := Lib.hid hq; have HP := Lib.hid hp
  obtain ⟨b, eb⟩ : ∃ b, eqS2 n m f g = b := ⟨_, rfl⟩
  have EB := Lib.hid eb
  rw [eb]
  clear hn hq hp eb
  go_enter Tryd.func46, Tryd.ntmps46
  by_cases e : n = m
  · subst e
    go_wp2_with (fail)
    go_loopw [5, 6, 14] (fun _ _ iv wr => ∃ (k : Nat), k ≤ n ∧ iv = .int .i64 k ∧ Hid (∀ j, j < k → el2 f g j = true) ∧ Hid (Below w.heap.size w wr)) (fun _ _ iv _ => (n - (intOf iv).toNat))
    case atStart => exact ⟨0, Nat.zero_le _, rfl, Lib.hid (fun j hj => absurd hj (Nat.not_lt_zero j)), Lib.hid (Below.refl _ _)⟩
    case round =>
      obtain ⟨k, hk, rfl, ALL, HB⟩ := hrel
      by_cases hlt : k < n
      · obtain ⟨D, o, rfl, hD, c0, c1⟩ := (HQ.out.later HB.out).at2 hlt
        obtain ⟨D2, o2, rfl, hD2, d0, d1⟩ := (HP.out.later HB.out).at2 hlt
        have hki : (k : Int) < (n : Int) := by omega
        have k0 : (0 : Int) ≤ (k : Int) := by omega
        have wk : IntKind.i64.wrap ((k : Int) + 1) = (k : Int) + 1 := IntWalk.i64_in _ (by have := HN.out; omega)
        have HLT := Lib.hid hlt
        obtain ⟨u, eu⟩ : ∃ u, el2 f g k = u := ⟨_, rfl⟩
        have EU := Lib.hid eu
        unfold el2 at eu
        generalize f (k * 2) = x0 at c0 eu
        generalize f (k * 2 + 1) = x1 at c1 eu
        generalize g (k * 2) = y0 at d0 eu
        generalize g (k * 2 + 1) = y1 at d1 eu
        clear hk hlt
        go_upto_region 6 with fail
        obtain ⟨Vw, hW⟩ : ∃ Vw, Vw = (wr.alloc (.cells #[.int .i64 x0, .int .i64 x1] 91)) := ⟨_, rfl⟩
        have hBx : Below wr.heap.size wr Vw := hW ▸ (Below.al (Below.refl _ _))
        have HE : Hid (Own wr.heap.size ([.int .i64 x0, .int .i64 x1]) Vw) := Lib.hid (hW ▸ (show Own wr.heap.size ([.int .i64 x0, .int .i64 x1]) (wr.alloc (.cells #[.int .i64 x0, .int .i64 x1] 91)) from Own.newAt (by simp)))
        rw [← hW]
        clear hW
        obtain ⟨Q, eQ⟩ : ∃ X, X = wr.heap.size := ⟨_, rfl⟩
        rw [← eQ] at HE ⊢
        have Qw : wr.heap.size ≤ Q := by omega
        clear eQ
        have HB_ := Lib.hid (Below.go HB.out hBx)
        have HDD := (Has.later (b := D2) (o := o2 + k * 2) (cs := [.int .i64 y0, .int .i64 y1]) ⟨hD2, fun j v hj => by
          match j, hj with
          | 0, hj => cases hj; exact d0
          | 1, hj => cases hj; exact d1⟩ hBx)
        clear d0 c0 d1 c1 hD hD2 hBx HB Qw
        have d0 := HDD.at 0 _ rfl; have d1 := HDD.at 1 _ rfl
        rw [Nat.add_zero] at d0
        have hD2 := HDD.lt
        clear HDD
        have oQ := HE.out
        have Q0 := oQ.at 0 _ rfl
        have Q1 := oQ.at 1 _ rfl
        have Ql := oQ.lt
        clear oQ
        go_quiet (fail)
        have hBd : Below Vw.heap.size Vw (Vw.drewN nq) := below_drewN (Below.refl _ _) _
        have HB1 := Lib.hid (Below.go HB_.out hBd)
        clear HB_ hBd hD2 d0 Q0 d1 Q1 Ql HE
        generalize Vw.drewN nq = z1 at *
        cases u with
        | false =>
          obtain rfl : b = false := EB.out.symm.trans (eqS2_no HLT.out EU.out)
          clear eu ALL
          go_wp2_with (fail)
          go_ret
          exact ⟨rfl, HB1.out⟩
        | true =>
          have ALL2 : Hid (∀ j, j < k + 1 → el2 f g j = true) := Lib.hid fun j hj => (Nat.lt_succ_iff_lt_or_eq.1 hj).elim (ALL.out j) (fun e => by rw [e]; exact EU.out)
          clear eu ALL
          go_wp2_with (fail)
          go_roundw
          case rel => (first | exact ⟨k + 1, HLT.out, by go_num, ALL2, HB1⟩ | ((repeat apply Exists.intro); exact ⟨⟨k + 1, HLT.out, by go_num, ALL2, HB1⟩, rfl⟩))
          case measure => (have := HLT.out; simp [intOf]; omega)
      · obtain rfl : k = n := by omega
        obtain rfl : b = true := EB.out.symm.trans (eqS2_yes rfl ALL.out)
        clear hlt hk ALL
        go_wp2_with (fail)
        go_ret
        exact ⟨rfl, HB.out⟩
  · obtain rfl : b = false := EB.out.symm.trans (eqS2_len e)
    have d0 : ((n : Int) != (m : Int)) = true := by simp; omega
    clear e
    go_wp2_with (fail)
    go_ret
    exact ⟨rfl, Below.refl _ _⟩
attribute [local go_sem ↓] neq3_run
set_option maxHeartbeats 4000000 in
theorem EqT_any (q : Option Addr) (n c : Nat) (f : Nat → Int) (p : Option Addr) (m d : Nat) (g : Nat → Int) (hn : n ≤ 100000) (w : World) (hq : NmS w 3 q n f) (hp : NmS w 3 p m g) :
    Calls Tryd.prog 47 #[.slice q n c, .slice p m d] w fun e w' => e = .returned (.bool (eqS3 n m f g)) ∧ Below w.heap.size w w' := by
  have HN := Lib.hid hn; have HQ := Lib.hid hq; have HP := Lib.hid hp
  obtain ⟨b, eb⟩ : ∃ b, eqS3 n m f g = b := ⟨_, rfl⟩
  have EB := Lib.hid eb
  rw [eb]
  clear hn hq hp eb
  go_enter Tryd.func47, Tryd.ntmps47
  by_cases e : n = m
  · subst e
    go_wp2_with (fail)
    go_loopw [5, 6, 14] (fun _ _ iv wr => ∃ (k : Nat), k ≤ n ∧ iv = .int .i64 k ∧ Hid (∀ j, j < k → el3 f g j = true) ∧ Hid (Below w.heap.size w wr)) (fun _ _ iv _ => (n - (intOf iv).toNat))
    case atStart => exact ⟨0, Nat.zero_le _, rfl, Lib.hid (fun j hj => absurd hj (Nat.not_lt_zero j)), Lib.hid (Below.refl _ _)⟩
    case round =>
      obtain ⟨k, hk, rfl, ALL, HB⟩ := hrel
      by_cases hlt : k < n
      · obtain ⟨D, o, rfl, hD, c0, c1, c2⟩ := (HQ.out.later HB.out).at3 hlt
        obtain ⟨D2, o2, rfl, hD2, d0, d1, d2⟩ := (HP.out.later HB.out).at3 hlt
        have hki : (k : Int) < (n : Int) := by omega
        have k0 : (0 : Int) ≤ (k : Int) := by omega
        have wk : IntKind.i64.wrap ((k : Int) + 1) = (k : Int) + 1 := IntWalk.i64_in _ (by have := HN.out; omega)
        have HLT := Lib.hid hlt
        obtain ⟨u, eu⟩ : ∃ u, el3 f g k = u := ⟨_, rfl⟩
        have EU := Lib.hid eu
        unfold el3 at eu
        generalize f (k * 3) = x0 at c0 eu
        generalize f (k * 3 + 1) = x1 at c1 eu
        generalize f (k * 3 + 2) = x2 at c2 eu
        generalize g (k * 3) = y0 at d0 eu
        generalize g (k * 3 + 1) = y1 at d1 eu
        generalize g (k * 3 + 2) = y2 at d2 eu
        clear hk hlt
        go_upto_region 6 with fail
        obtain ⟨Vw, hW⟩ : ∃ Vw, Vw = (wr.alloc (.cells #[.int .i64 x0, .int .i64 x1, .int .i64 x2] 29)) := ⟨_, rfl⟩
        have hBx : Below wr.heap.size wr Vw := hW ▸ (Below.al (Below.refl _ _))
        have HE : Hid (Own wr.heap.size ([.int .i64 x0, .int .i64 x1, .int .i64 x2]) Vw) := Lib.hid (hW ▸ (show Own wr.heap.size ([.int .i64 x0, .int .i64 x1, .int .i64 x2]) (wr.alloc (.cells #[.int .i64 x0, .int .i64 x1, .int .i64 x2] 29)) from Own.newAt (by simp)))
        rw [← hW]
        clear hW
        obtain ⟨Q, eQ⟩ : ∃ X, X = wr.heap.size := ⟨_, rfl⟩
        rw [← eQ] at HE ⊢
        have Qw : wr.heap.size ≤ Q := by omega
        clear eQ
        have HB_ := Lib.hid (Below.go HB.out hBx)
        have HDD := (Has.later (b := D2) (o := o2 + k * 3) (cs := [.int .i64 y0, .int .i64 y1, .int .i64 y2]) ⟨hD2, fun j v hj => by
          match j, hj with
          | 0, hj => cases hj; exact d0
          | 1, hj => cases hj; exact d1
          | 2, hj => cases hj; exact d2⟩ hBx)
        clear d0 c0 d1 c1 d2 c2 hD hD2 hBx HB Qw
        have d0 := HDD.at 0 _ rfl; have d1 := HDD.at 1 _ rfl; have d2 := HDD.at 2 _ rfl
        rw [Nat.add_zero] at d0
        have hD2 := HDD.lt
        clear HDD
        have oQ := HE.out
        have Q0 := oQ.at 0 _ rfl
        have Q1 := oQ.at 1 _ rfl
        have Q2 := oQ.at 2 _ rfl
        have Ql := oQ.lt
        clear oQ
        go_quiet (fail)
        have hBd : Below Vw.heap.size Vw (Vw.drewN nq) := below_drewN (Below.refl _ _) _
        have HB1 := Lib.hid (Below.go HB_.out hBd)
        clear HB_ hBd hD2 d0 Q0 d1 Q1 d2 Q2 Ql HE
        generalize Vw.drewN nq = z1 at *
        cases u with
        | false =>
          obtain rfl : b = false := EB.out.symm.trans (eqS3_no HLT.out EU.out)
          clear eu ALL
          go_wp2_with (fail)
          go_ret
          exact ⟨rfl, HB1.out⟩
        | true =>
          have ALL2 : Hid (∀ j, j < k + 1 → el3 f g j = true) := Lib.hid fun j hj => (Nat.lt_succ_iff_lt_or_eq.1 hj).elim (ALL.out j) (fun e => by rw [e]; exact EU.out)
          clear eu ALL
          go_wp2_with (fail)
          go_roundw
          case rel => (first | exact ⟨k + 1, HLT.out, by go_num, ALL2, HB1⟩ | ((repeat apply Exists.intro); exact ⟨⟨k + 1, HLT.out, by go_num, ALL2, HB1⟩, rfl⟩))
          case measure => (have := HLT.out; simp [intOf]; omega)
      · obtain rfl : k = n := by omega
        obtain rfl : b = true := EB.out.symm.trans (eqS3_yes rfl ALL.out)
        clear hlt hk ALL
        go_wp2_with (fail)
        go_ret
        exact ⟨rfl, HB.out⟩
  · obtain rfl : b = false := EB.out.symm.trans (eqS3_len e)
    have d0 : ((n : Int) != (m : Int)) = true := by simp; omega
    clear e
    go_wp2_with (fail)
    go_ret
    exact ⟨rfl, Below.refl _ _⟩
end Go.Proofs.YtokfhhngnpbdkaaDoor
