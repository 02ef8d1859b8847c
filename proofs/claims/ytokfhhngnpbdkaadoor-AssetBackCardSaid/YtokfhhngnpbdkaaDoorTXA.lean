/- UA UB UC UD UE UF UH UI UJ UK UL UP MUA, in one text. -/
import Derived.Test.YtokfhhngnpbdkaaDoorMS1
import Derived.Lib.Hide
import Derived.LoopN
import Derived.LoopTactic
import Derived.Deep.Onto
import Derived.Deep.RegionHeld3
import Derived.Deep.QuietTactic
import Derived.BigQuiet
import Derived.Test.YtokfhhngnpbdkaaDoorMB1
import Derived.StillTailTactics
import Derived.Lib.SliceRun
import Derived.Great.BuildSlice
import Derived.Test.YtokfhhngnpbdkaaDoorMB0
/- UA -/
namespace Go.Proofs.YtokfhhngnpbdkaaDoor
set_option linter.unusedVariables false
set_option maxRecDepth 2000
set_option linter.unusedSimpArgs false
open Go.RowKit
/-- a texture -/
structure Txr where
  S : Int
  q : Option Addr
  n : Nat
  c : Nat
  f : Nat → Int
structure TxAt (M : Txr) (w : World) : Prop where
  t : NmS w 3 M.q M.n M.f
  l : M.n ≤ M.c
  m : M.c ≤ 9223372036854775807
theorem TxAt.later {M : Txr} {w w' : World} (h : TxAt M w) (hb : Below w.heap.size w w') : TxAt M w' := ⟨h.t.later hb, h.l, h.m⟩
/-- what is asked of a side, of a texel -/
def okS (S : Int) : Bool := decide (S = 1 ∨ S = 2 ∨ S = 4 ∨ S = 8 ∨ S = 16)
def okX (x y z : Int) : Bool := decide ((0 ≤ x ∧ x ≤ 255) ∧ (0 ≤ y ∧ y ≤ 255) ∧ (0 ≤ z ∧ z ≤ 255))
def okXs (f : Nat → Int) (i : Nat) : Bool := okX (f (i * 3)) (f (i * 3 + 1)) (f (i * 3 + 2))
/-- the error of a texture -/
def chkT (S : Int) (n : Nat) (f : Nat → Int) : Int := if okS S = false ∨ (n : Int) ≠ S * S then 5 else if allB (okXs f) n = false then 5 else 0
/-- what a texture without a fault is -/
structure GoodT (S : Int) (n : Nat) (f : Nat → Int) : Prop where
  s : S = 1 ∨ S = 2 ∨ S = 4 ∨ S = 8 ∨ S = 16
  k : (n : Int) = S * S
  v : ∀ j, j < n * 3 → 0 ≤ f j ∧ f j ≤ 255
theorem okS_iff {S : Int} : okS S = true ↔ S = 1 ∨ S = 2 ∨ S = 4 ∨ S = 8 ∨ S = 16 := decide_eq_true_iff
theorem okX_iff {x y z : Int} : okX x y z = true ↔ (0 ≤ x ∧ x ≤ 255) ∧ (0 ≤ y ∧ y ≤ 255) ∧ (0 ≤ z ∧ z ≤ 255) := decide_eq_true_iff
theorem tchk_1 {S : Int} {n : Nat} {f : Nat → Int} (h : okS S = false ∨ (n : Int) ≠ S * S) : chkT S n f = 5 := if_pos h
theorem tchk_2 {S : Int} {n : Nat} {f : Nat → Int} (h : ¬(okS S = false ∨ (n : Int) ≠ S * S)) (h2 : allB (okXs f) n = false) : chkT S n f = 5 := by unfold chkT; rw [if_neg h, if_pos h2]
theorem tchk_3 {S : Int} {n : Nat} {f : Nat → Int} (h : ¬(okS S = false ∨ (n : Int) ≠ S * S)) (h2 : allB (okXs f) n = true) : chkT S n f = 0 := by unfold chkT; rw [if_neg h, if_neg (by simp [h2])]
theorem tchk_good {S : Int} {n : Nat} {f : Nat → Int} (h : chkT S n f = 0) : GoodT S n f := by
  by_cases h1 : okS S = false ∨ (n : Int) ≠ S * S
  · rw [tchk_1 h1] at h; omega
  cases h2 : allB (okXs f) n with
  | false => rw [tchk_2 h1 h2] at h; omega
  | true =>
    have a2 := allB_iff.1 h2
    have h3 : okS S = true := by
      cases h4 : okS S with
      | true => rfl
      | false => exact absurd (.inl h4) h1
    refine ⟨okS_iff.1 h3, ?_, by3 fun i hi => ?_⟩
    · exact Classical.byContradiction fun h4 => h1 (.inr h4)
    · exact okX_iff.1 (a2 i hi)
theorem tchk_congr {S : Int} {n : Nat} {f g : Nat → Int} (h : ∀ j, j < n * 3 → f j = g j) : chkT S n f = chkT S n g := by
  have e1 : allB (okXs f) n = allB (okXs g) n := allB_congr fun i hi => by unfold okXs; rw [h _ (by omega), h _ (by omega), h _ (by omega)]
  unfold chkT
  rw [e1]
/-- a side, as a count -/
theorem GoodT.cnt {S : Int} {n : Nat} {f : Nat → Int} (h : GoodT S n f) : ∃ s : Nat, S = (s : Int) ∧ (s = 1 ∨ s = 2 ∨ s = 4 ∨ s = 8 ∨ s = 16) ∧ n = s * s := by
  have hn := h.k
  rcases h.s with e | e | e | e | e <;> subst e
  · exact ⟨1, rfl, by omega, by omega⟩
  · exact ⟨2, rfl, by omega, by omega⟩
  · exact ⟨4, rfl, by omega, by omega⟩
  · exact ⟨8, rfl, by omega, by omega⟩
  · exact ⟨16, rfl, by omega, by omega⟩
/-- '==' and '!=' of two texels -/
theorem eql3 (a0 a1 a2 b0 b1 b2 : Int) (w : World) : (Op.equalIn 10000 29 (.agg #[.int .i64 a0, .int .i64 a1, .int .i64 a2]) (.agg #[.int .i64 b0, .int .i64 b1, .int .i64 b2])).run Tryd.prog w = .ok (decide (a0 = b0 ∧ a1 = b1 ∧ a2 = b2)) w := by
    rw [show (10000 : Nat) = 9998 + 2 from rfl, Op.equalIn]
    simp only [Sem.run_bind, run_underlying Tryd.underlying29, Result.andThen_ok]
    by_cases e0 : a0 = b0 <;> by_cases e1 : a1 = b1 <;> by_cases e2 : a2 = b2 <;> simp [go_sem, List.range', e0, e1, e2]
def eq3B (a0 a1 a2 b0 b1 b2 : Int) : Bool := decide (a0 = b0 ∧ a1 = b1 ∧ a2 = b2)
theorem eq3_run (a0 a1 a2 b0 b1 b2 : Int) (w : World) : (binOp .eql 29 (.agg #[.int .i64 a0, .int .i64 a1, .int .i64 a2]) (.agg #[.int .i64 b0, .int .i64 b1, .int .i64 b2])).run Tryd.prog w = .ok (.bool (eq3B a0 a1 a2 b0 b1 b2)) w := by
  have h := eql3 a0 a1 a2 b0 b1 b2 w
  simp only [go_sem, h]
  simp [eq3B, go_sem]
theorem neq3_run (a0 a1 a2 b0 b1 b2 : Int) (w : World) : (binOp .neq 29 (.agg #[.int .i64 a0, .int .i64 a1, .int .i64 a2]) (.agg #[.int .i64 b0, .int .i64 b1, .int .i64 b2])).run Tryd.prog w = .ok (.bool (!eq3B a0 a1 a2 b0 b1 b2)) w := by
  have h := eql3 a0 a1 a2 b0 b1 b2 w
  simp only [go_sem, h]
  simp [eq3B, go_sem]
theorem eq3B_iff {a0 a1 a2 b0 b1 b2 : Int} : eq3B a0 a1 a2 b0 b1 b2 = true ↔ a0 = b0 ∧ a1 = b1 ∧ a2 = b2 := decide_eq_true_iff
end Go.Proofs.YtokfhhngnpbdkaaDoor

/- UB -/
namespace Go.Proofs.YtokfhhngnpbdkaaDoor
set_option linter.unusedVariables false
set_option maxRecDepth 2000
set_option linter.unusedSimpArgs false
open Go.RowKit
attribute [local go_sem ↓] eq3_run neq3_run ix3_0 ix3_1 ix3_2
theorem retb {b c : Bool} (h : b = true ↔ c = true) : Ending.returned (.bool b) = Ending.returned (.bool c) := by
  cases b <;> cases c <;> simp at h ⊢
set_option maxHeartbeats 2000000 in
theorem isSide_any (S : Int) (w : World) : Calls Tryd.prog 82 #[.int .i64 S] w fun e w' => e = .returned (.bool (okS S)) ∧ w' = w := by
  have HE := Lib.hid (@okS_iff S)
  generalize okS S = b at *
  go_enter Tryd.func82, Tryd.ntmps82
  go_wp2_with (fail)
  all_goals (go_ret; refine ⟨retb ?_, rfl⟩; rw [HE.out]; simp at *; omega)
set_option maxHeartbeats 4000000 in
theorem offColor_any (x y z : Int) (w : World) : Calls Tryd.prog 84 #[.agg #[.int .i64 x, .int .i64 y, .int .i64 z]] w fun e w' => e = .returned (.bool (!okX x y z)) ∧ Below w.heap.size w w' := by
  have HE := Lib.hid (@okX_iff x y z)
  generalize okX x y z = b at *
  go_enter Tryd.func84, Tryd.ntmps84
  go_upto_region 2 with fail
  obtain ⟨W0, hW⟩ : ∃ W0, W0 = ((w.alloc (.cells #[.int .i64 x, .int .i64 y, .int .i64 z] 29)).alloc (.cells #[.int .i64 x, .int .i64 y, .int .i64 z] 29)) := ⟨_, rfl⟩
  have hB0 : Below w.heap.size w W0 := hW ▸ (Below.al (Below.al (Below.refl _ _)))
  have HA : Hid (Own w.heap.size [.int .i64 x, .int .i64 y, .int .i64 z] W0) := Lib.hid (hW ▸ (Own.newAt (by simp)).alloc)
  have HQ : Hid (Own (w.heap.size + 1) [.int .i64 x, .int .i64 y, .int .i64 z] W0) := Lib.hid (hW ▸ (Own.newAt (by simp)))
  rw [← hW]
  clear hW
  obtain ⟨Q, eQ⟩ : ∃ X, X = (w.heap.size + 1) := ⟨_, rfl⟩
  rw [← eQ] at HQ ⊢
  obtain ⟨A, eA⟩ : ∃ X, X = w.heap.size := ⟨_, rfl⟩
  have nAQ : A ≠ Q := by omega
  have hQ : w.heap.size ≤ Q := by omega
  rw [← eA] at HA ⊢
  clear eA eQ
  have HB := Lib.hid hB0
  have HQw := Lib.hid hQ
  clear hB0 hQ
  have A0 := HA.out.at 0 _ rfl; have A1 := HA.out.at 1 _ rfl; have A2 := HA.out.at 2 _ rfl; have Al := HA.out.lt
  go_wp2_with (fail)
  clear A0 A1 A2 Al
  refine wp_loop_rounds 4 ?_
  rw [rounds_succ]
  have Q0 := HQ.out.at 0 _ rfl; have Q0f := HQ.out.ok 0 (by simp); have Q1 := HQ.out.at 1 _ rfl; have Q1f := HQ.out.ok 1 (by simp); have Q2 := HQ.out.at 2 _ rfl; have Q2f := HQ.out.ok 2 (by simp); have Ql := HQ.out.lt
  go_wp2_with (fail)
  rw [rounds_succ]
  go_wp2_with (fail)
  rw [rounds_succ]
  go_wp2_with (fail)
  rw [rounds_succ]
  have A0 := HA.out.at 0 _ rfl; have A1 := HA.out.at 1 _ rfl; have A2 := HA.out.at 2 _ rfl; have Al := HA.out.lt
  go_wp2_with (fail)
  go_ret
  refine ⟨retb ?_, ?_⟩
  · have e : eq3B (min (max x 0) 255) (min (max y 0) 255) (min (max z 0) 255) x y z = b := by
      rw [Bool.eq_iff_iff, HE.out, eq3B_iff]
      omega
    rw [e]
  · exact ((HB.out.setCell (p := ⟨Q, 0, none⟩) HQw.out _).setCell (p := ⟨Q, 1, none⟩) HQw.out _).setCell (p := ⟨Q, 2, none⟩) HQw.out _
set_option maxHeartbeats 4000000 in
theorem IndexX_any (q : Option Addr) (n c : Nat) (V : Nat → Int) (hnc : n ≤ c) (hc : c ≤ 9223372036854775807) (w : World) (hq : NmS w 3 q n V) :
    Calls Tryd.prog 103 #[.slice q n c, .func (.func 84) #[] #[]] w fun e w' => ∃ z : Int, e = .returned (.int .i64 z) ∧ (0 ≤ z ↔ allB (okXs V) n = false) ∧ Below w.heap.size w w' := by
  have HNC := Lib.hid hnc; have HC := Lib.hid hc; have HQ := Lib.hid hq
  clear hnc hc hq
  go_enter Tryd.func103, Tryd.ntmps103
  go_wp2_with (fail)
  go_loopw [5, 8] (fun _ iv wr => ∃ (k : Nat), k ≤ n ∧ iv = .int .i64 k ∧ Hid (∀ j, j < k → okXs V j = true) ∧ Hid (Below w.heap.size w wr)) (fun _ iv _ => (n - (intOf iv).toNat))
  case atStart => exact ⟨0, Nat.zero_le _, rfl, Lib.hid (fun j hj => absurd hj (Nat.not_lt_zero j)), Lib.hid (Below.refl _ _)⟩
  case round =>
    obtain ⟨k, hk, rfl, ALL, HB⟩ := hrel
    by_cases hlt : k < n
    · obtain ⟨D, o, rfl, hD, hh⟩ := (HQ.out.later HB.out).at hlt
      have hki : (k : Int) < (n : Int) := by omega
      have k0 : (0 : Int) ≤ (k : Int) := by omega
      have wk : IntKind.i64.wrap ((k : Int) + 1) = (k : Int) + 1 := IntWalk.i64_in _ (by have := HNC.out; have := HC.out; omega)
      have c0 := hh.at 0 _ rfl; have c1 := hh.at 1 _ rfl; have c2 := hh.at 2 _ rfl
      clear hh
      rw [Nat.add_zero] at c0
      have HLT := Lib.hid hlt
      clear hk hlt
      go_wp2_with (fail)
      go_at_call 84
      refine (offColor_any _ _ _ _).mono ?_
      rintro e w1 ⟨rfl, hb⟩
      have HB1 := Lib.hid (Below.go HB.out hb)
      clear hb HB c0 c1 c2 hD
      obtain ⟨b, eb⟩ : ∃ b, okXs V k = b := ⟨_, rfl⟩
      rw [show okX (V (k * 3)) (V (k * 3 + 1)) (V (k * 3 + 2)) = b from eb]
      cases b with
      | true =>
        have ALL2 : Hid (∀ j, j < k + 1 → okXs V j = true) := Lib.hid fun j hj => (Nat.lt_succ_iff_lt_or_eq.1 hj).elim (ALL.out j) (fun e => by rw [e]; exact eb)
        clear eb ALL
        go_wp2_with (fail)
        go_roundw
        case rel => (first | exact ⟨k + 1, HLT.out, by go_num, ALL2, HB1⟩ | ((repeat apply Exists.intro); exact ⟨⟨k + 1, HLT.out, by go_num, ALL2, HB1⟩, rfl⟩))
        case measure => (have := HLT.out; simp [intOf]; omega)
      | false =>
        have NO : Hid ((0 : Int) ≤ (k : Int) ↔ allB (okXs V) n = false) := Lib.hid ⟨fun _ => allB_not HLT.out eb, fun _ => k0⟩
        clear eb ALL
        go_wp2_with (fail)
        go_ret
        exact ⟨k, rfl, NO.out, HB1.out⟩
    · obtain rfl : k = n := by omega
      have YES : Hid ((0 : Int) ≤ -1 ↔ allB (okXs V) k = false) := Lib.hid ⟨fun h => by omega, fun h => by rw [allB_iff.2 ALL.out] at h; cases h⟩
      clear hlt hk ALL
      go_wp2_with (fail)
      go_ret
      exact ⟨-1, rfl, YES.out, HB.out⟩

set_option maxHeartbeats 2000000 in
theorem ContX_any (q : Option Addr) (n c : Nat) (V : Nat → Int) (hnc : n ≤ c) (hc : c ≤ 9223372036854775807) (w : World) (hq : NmS w 3 q n V) :
    Calls Tryd.prog 83 #[.slice q n c, .func (.func 84) #[] #[]] w fun e w' => e = .returned (.bool (!allB (okXs V) n)) ∧ Below w.heap.size w w' := by
  have F := Lib.hid (IndexX_any q n c V hnc hc w hq)
  clear hnc hc hq
  go_enter Tryd.func83, Tryd.ntmps83
  go_wp2_with (fail)
  go_at_call 103
  refine F.out.mono ?_
  rintro e w1 ⟨z, rfl, hz, hb⟩
  clear F
  have R : Hid (decide (0 ≤ z) = !allB (okXs V) n) := Lib.hid (by
    cases h : allB (okXs V) n with
    | false => rw [h] at hz; simpa using hz
    | true => rw [h] at hz; simpa using hz)
  clear hz
  go_wp2_with (fail)
  go_ret
  exact ⟨by rw [← R.out]; rfl, hb⟩


set_option maxHeartbeats 4000000 in
theorem tCheck_any (M : Txr) (w : World) (hM : TxAt M w) : Calls Tryd.prog 67 #[.agg #[.int .i64 M.S, .slice M.q M.n M.c]] w fun e w' => e = .returned (.int .i64 (chkT M.S M.n M.f)) ∧ Below w.heap.size w w' := by
  obtain ⟨S, q, n, c, f⟩ := M
  have HT := Lib.hid hM.t; have HL := Lib.hid hM.l; have HC := Lib.hid hM.m
  dsimp only at *
  have V1 := Lib.hid (@tchk_1 S n f); have V2 := Lib.hid (@tchk_2 S n f); have V3 := Lib.hid (@tchk_3 S n f)
  generalize chkT S n f = z at *
  clear hM
  go_enter Tryd.func67, Tryd.ntmps67
  go_upto_region 1 with fail
  obtain ⟨W0, hW⟩ : ∃ W0, W0 = (w.alloc (.cells #[.int .i64 S, .slice q n c] 28)) := ⟨_, rfl⟩
  have hB0 : Below w.heap.size w W0 := hW ▸ (Below.al (Below.refl _ _))
  have HA : Hid (Own w.heap.size [.int .i64 S, .slice q n c] W0) := Lib.hid (hW ▸ (Own.newAt (by simp)))
  rw [← hW]
  clear hW
  obtain ⟨A, eA⟩ : ∃ X, X = w.heap.size := ⟨_, rfl⟩
  rw [← eA] at HA ⊢
  clear eA
  have HB := Lib.hid hB0
  clear hB0
  have A0 := HA.out.at 0 _ rfl; have A1 := HA.out.at 1 _ rfl; have Al := HA.out.lt
  go_wp2_with (fail)
  go_at_call 82
  refine (isSide_any S _).mono ?_
  rintro e w1 ⟨rfl, hw⟩
  subst hw
  obtain ⟨b, eb⟩ : ∃ b, okS S = b := ⟨_, rfl⟩
  rw [eb]
  cases b with
  | false =>
    obtain rfl : z = 5 := V1.out (.inl eb)
    clear V1 V2 V3 eb
    go_wp2_with (fail)
    go_ret
    exact ⟨rfl, HB.out⟩
  | true =>
    have hSS : 0 ≤ S * S ∧ S * S ≤ 256 := by rcases okS_iff.1 eb with rfl | rfl | rfl | rfl | rfl <;> decide
    have wm : IntKind.i64.wrap (S * S) = S * S := IntWalk.i64_in _ (by omega)
    have EB := Lib.hid eb
    clear eb hSS
    by_cases hn : (n : Int) = S * S
    · have hc : ((n : Int) != S * S) = false := by simpa using hn
      have HN := Lib.hid hn
      clear hn
      go_wp2_with (fail)
      go_at_call 83
      refine (ContX_any q n c f HL.out HC.out _ (HT.out.later HB.out)).mono ?_
      rintro e w2 ⟨rfl, hb⟩
      have HB2 := Lib.hid (Below.go HB.out hb)
      clear hb A0 A1 Al
      have ng : Hid (¬(okS S = false ∨ (n : Int) ≠ S * S)) := Lib.hid (by rw [EB.out, HN.out]; simp)
      obtain ⟨b, eb⟩ : ∃ b, allB (okXs f) n = b := ⟨_, rfl⟩
      rw [eb]
      cases b with
      | false =>
        obtain rfl : z = 5 := V2.out ng.out eb
        clear V1 V2 V3 eb
        go_wp2_with (fail)
        go_ret
        exact ⟨rfl, HB2.out⟩
      | true =>
        obtain rfl : z = 0 := V3.out ng.out eb
        clear V1 V2 V3 eb
        go_wp2_with (fail)
        go_ret
        exact ⟨rfl, HB2.out⟩
    · have hc : ((n : Int) != S * S) = true := by simpa using hn
      obtain rfl : z = 5 := V1.out (.inr hn)
      clear V1 V2 V3 hn
      go_wp2_with (fail)
      go_ret
      exact ⟨rfl, HB.out⟩
end Go.Proofs.YtokfhhngnpbdkaaDoor

/- UC -/
namespace Go.Proofs.YtokfhhngnpbdkaaDoor
set_option linter.unusedVariables false
set_option maxRecDepth 2000
set_option linter.unusedSimpArgs false
open Go.RowKit
theorem okX_no {f : Nat → Int} {i n : Nat} (hi : i < n) (h : ¬((0 ≤ f (i * 3) ∧ f (i * 3) ≤ 255) ∧ (0 ≤ f (i * 3 + 1) ∧ f (i * 3 + 1) ≤ 255) ∧ (0 ≤ f (i * 3 + 2) ∧ f (i * 3 + 2) ≤ 255))) : allB (okXs f) n = false := allB_not hi (decide_eq_false h)
theorem allB_stepX {p : Nat → Bool} {k : Nat} (h : ∀ j, j < k → p j = true) (hk : p k = true) : ∀ j, j < k + 1 → p j = true := fun j hj => (Nat.lt_succ_iff_lt_or_eq.1 hj).elim (h j) (fun e => by rw [e]; exact hk)
set_option maxHeartbeats 16000000 in
theorem tRCheck_any (M : Txr) (w : World) (hM : TxAt M w) : Calls Tryd.prog 31 #[.agg #[.int .i64 M.S, .slice M.q M.n M.c]] w fun e w' => e = .returned (.int .i64 (chkT M.S M.n M.f)) ∧ Below w.heap.size w w' := by
  obtain ⟨S, q, n, c, f⟩ := M
  have HT := Lib.hid hM.t; have HL := Lib.hid hM.l; have HC := Lib.hid hM.m
  dsimp only at *
  have V1 := Lib.hid (@tchk_1 S n f); have V2 := Lib.hid (@tchk_2 S n f); have V3 := Lib.hid (@tchk_3 S n f)
  generalize chkT S n f = z at *
  clear hM
  go_enter Tryd.func31, Tryd.ntmps31
  go_upto_region 1 with fail
  obtain ⟨W0, hW⟩ : ∃ W0, W0 = (w.alloc (.cells #[.int .i64 S, .slice q n c] 28)) := ⟨_, rfl⟩
  have hB0 : Below w.heap.size w W0 := hW ▸ (Below.al (Below.refl _ _))
  have HA : Hid (Own w.heap.size [.int .i64 S, .slice q n c] W0) := Lib.hid (hW ▸ (Own.newAt (by simp)))
  rw [← hW]
  clear hW
  obtain ⟨A, eA⟩ : ∃ X, X = w.heap.size := ⟨_, rfl⟩
  rw [← eA] at HA ⊢
  clear eA
  have HB := Lib.hid hB0
  have HT0 := Lib.hid (HT.out.later hB0)
  clear hB0 HT
  have A0 := HA.out.at 0 _ rfl; have A1 := HA.out.at 1 _ rfl; have Al := HA.out.lt
  obtain ⟨b, eb⟩ : ∃ b, okS S = b := ⟨_, rfl⟩
  cases b with
  | false =>
    obtain rfl : z = 5 := V1.out (.inl eb)
    have hs : ¬(S = 1 ∨ S = 2 ∨ S = 4 ∨ S = 8 ∨ S = 16) := of_decide_eq_false eb
    have e1 : (S != 1) = true := by simp; omega
    have e2 : (S != 2) = true := by simp; omega
    have e3 : (S != 4) = true := by simp; omega
    have e4 : (S != 8) = true := by simp; omega
    have e5 : (S != 16) = true := by simp; omega
    clear V1 V2 V3 eb hs HT0
    go_wp2_with (fail)
    go_ret
    exact ⟨rfl, HB.out⟩
  | true =>
    have EB := Lib.hid eb
    have ES := okS_iff.1 eb
    clear eb
    obtain ⟨m, em⟩ : ∃ m, m = S * S := ⟨_, rfl⟩
    by_cases hn : (n : Int) = m
    · have ng : Hid (¬(okS S = false ∨ (n : Int) ≠ S * S)) := Lib.hid (by rw [EB.out, hn, em]; simp)
      have W2 := Lib.hid (V2.out ng.out); have W3 := Lib.hid (V3.out ng.out)
      clear V1 V2 V3 ng EB
      have hm : m ≤ 256 := by rw [em]; rcases ES with rfl | rfl | rfl | rfl | rfl <;> decide
      have N0 := Lib.hid (show n ≤ 256 by omega)
      have hc : ((n : Int) != m) = false := by simpa using hn
      clear hn hm
      have A1_ := Lib.hid A1; have Al_ := Lib.hid Al
      clear HA
      rcases ES with rfl | rfl | rfl | rfl | rfl
      all_goals
       (simp at em; subst em; go_upto_region 3 with fail
        clear A0 A1 Al hc
        go_wp2_with (fail)
        go_loopw [3] (fun iv wr => ∃ (k : Nat), k ≤ n ∧ iv = .int .i64 k ∧ Hid (∀ j, j < k → okXs f j = true) ∧ W0 = wr) (fun iv _ => (n - (intOf iv).toNat))
        case atStart => exact ⟨0, Nat.zero_le _, rfl, Lib.hid (fun j hj => absurd hj (Nat.not_lt_zero j)), rfl⟩
        case round =>
          obtain ⟨k, hk, rfl, ALL, rfl⟩ := hrel
          have A1 := A1_.out; have Al := Al_.out
          by_cases hlt : k < n
          · obtain ⟨D, o, rfl, hD, c0, c1, c2⟩ := HT0.out.at3 hlt
            have hki : (k : Int) < (n : Int) := by omega
            have k0 : (0 : Int) ≤ (k : Int) := by omega
            have wk : IntKind.i64.wrap ((k : Int) + 1) = (k : Int) + 1 := IntWalk.i64_in _ (by have := N0.out; omega)
            obtain ⟨x0, ex0⟩ : ∃ x, f (k * 3) = x := ⟨_, rfl⟩
            obtain ⟨x1, ex1⟩ : ∃ x, f (k * 3 + 1) = x := ⟨_, rfl⟩
            obtain ⟨x2, ex2⟩ : ∃ x, f (k * 3 + 2) = x := ⟨_, rfl⟩
            rw [ex0] at c0
            rw [ex1] at c1
            rw [ex2] at c2
            have HLT := Lib.hid hlt
            clear hk hlt
            go_wp2_with (fail)
            refine wp_loop_rounds 4 ?_
            rw [rounds_succ]
            by_cases g0 : x0 < 0
            · obtain rfl : z = 5 := W2.out (okX_no HLT.out (by rw [ex0, ex1, ex2]; omega))
              clear W2 W3 ALL
              go_wp2_with (fail)
              go_ret
              exact ⟨rfl, HB.out⟩
            have d0 : decide (x0 < 0) = false := decide_eq_false g0
            by_cases k0 : 255 < x0
            · obtain rfl : z = 5 := W2.out (okX_no HLT.out (by rw [ex0, ex1, ex2]; omega))
              clear W2 W3 ALL
              go_wp2_with (fail)
              go_ret
              exact ⟨rfl, HB.out⟩
            have r0 : decide (255 < x0) = false := decide_eq_false k0
            go_wp2_with (fail)
            rw [rounds_succ]
            by_cases g1 : x1 < 0
            · obtain rfl : z = 5 := W2.out (okX_no HLT.out (by rw [ex0, ex1, ex2]; omega))
              clear W2 W3 ALL
              go_wp2_with (fail)
              go_ret
              exact ⟨rfl, HB.out⟩
            have d1 : decide (x1 < 0) = false := decide_eq_false g1
            by_cases k1 : 255 < x1
            · obtain rfl : z = 5 := W2.out (okX_no HLT.out (by rw [ex0, ex1, ex2]; omega))
              clear W2 W3 ALL
              go_wp2_with (fail)
              go_ret
              exact ⟨rfl, HB.out⟩
            have r1 : decide (255 < x1) = false := decide_eq_false k1
            go_wp2_with (fail)
            rw [rounds_succ]
            by_cases g2 : x2 < 0
            · obtain rfl : z = 5 := W2.out (okX_no HLT.out (by rw [ex0, ex1, ex2]; omega))
              clear W2 W3 ALL
              go_wp2_with (fail)
              go_ret
              exact ⟨rfl, HB.out⟩
            have d2 : decide (x2 < 0) = false := decide_eq_false g2
            by_cases k2 : 255 < x2
            · obtain rfl : z = 5 := W2.out (okX_no HLT.out (by rw [ex0, ex1, ex2]; omega))
              clear W2 W3 ALL
              go_wp2_with (fail)
              go_ret
              exact ⟨rfl, HB.out⟩
            have r2 : decide (255 < x2) = false := decide_eq_false k2
            go_wp2_with (fail)
            have OKK : Hid (okXs f k = true) := Lib.hid (okX_iff.2 (by rw [ex0, ex1, ex2]; omega))
            have ALL2 := Lib.hid (allB_stepX ALL.out OKK.out)
            clear ALL ex0 ex1 ex2 g0 g1 g2 k0 k1 k2 d0 d1 d2 r0 r1 r2 c0 c1 c2 OKK
            rw [rounds_succ]
            go_wp2_with (fail)
            go_roundw
            case rel => exact ⟨k + 1, HLT.out, by go_num, ALL2, by first | rfl | trivial⟩
            case measure => (have := HLT.out; simp [intOf]; omega)
          · obtain rfl : k = n := by omega
            obtain rfl : z = 0 := W3.out (allB_iff.2 ALL.out)
            clear hlt hk ALL W2 W3
            go_wp2_with (fail)
            go_ret
            exact ⟨rfl, HB.out⟩)
    · have hc : ((n : Int) != m) = true := by simpa using hn
      obtain rfl : z = 5 := V1.out (.inr (by rw [← em]; exact hn))
      clear V1 V2 V3 hn HT0 EB
      rcases ES with rfl | rfl | rfl | rfl | rfl
      all_goals (simp at em; subst em; go_wp2_with (fail); go_ret; exact ⟨rfl, HB.out⟩)
end Go.Proofs.YtokfhhngnpbdkaaDoor

/- UD -/
namespace Go.Proofs.YtokfhhngnpbdkaaDoor
set_option linter.unusedVariables false
set_option maxRecDepth 2000
set_option linter.unusedSimpArgs false
open Go.RowKit
attribute [local go_sem ↓] eq3_run neq3_run
/-- a texture cut at 260 texels -/
def fewT (M : Txr) : Txr := { M with n := min M.n 260 }
attribute [local go_sem ↓ high] sliced_head
end Go.Proofs.YtokfhhngnpbdkaaDoor

/- UE -/
namespace Go.Proofs.YtokfhhngnpbdkaaDoor
set_option linter.unusedVariables false
set_option maxRecDepth 2000
set_option linter.unusedSimpArgs false
open Go.RowKit
attribute [local go_sem ↓] ix3_0 ix3_1 ix3_2
/-- the bytes of a texture -/
def encT (S : Int) (f : Nat → Int) (j : Nat) : Int := if j = 0 then S else f (j - 1)
def encTL (z : Int) (n : Nat) : Nat := if z = 0 then 1 + n * 3 else 0
theorem RowR.congr {w : World} {v : Value} {n : Nat} {f g : Nat → Int} (h : RowR w v n f) (e : ∀ j, j < n → f j = g j) : RowR w v n g := by
  obtain ⟨q, c, h1, h2, h3, h4⟩ := h
  refine ⟨q, c, h1, h2, h3, ?_⟩
  rcases h4 with h4 | ⟨b, off, h5, h6⟩
  · exact .inl h4
  · refine .inr ⟨b, off, h5, ?_⟩
    rw [← nums_congr .u8 e]
    exact h6
theorem enc_out {S : Int} {n : Nat} {f : Nat → Int} (h : GoodT S n f) (j : Nat) (hj : j < 1 + n * 3) : outF (outF (fun _ => 0) 0 1 (fun _ => S)) 1 1 f j = encT S f j := by
  have hs : 0 ≤ S ∧ S ≤ 255 := by rcases h.s with e | e | e | e | e <;> omega
  unfold encT
  by_cases h0 : j = 0
  · subst h0
    rw [if_pos rfl, outF_head _ _ _ _ (by omega)]
    unfold outF dg
    rw [if_neg (by omega), pw_zero]
    show S / 1 % 256 = S
    omega
  · rw [if_neg h0]
    unfold outF dg
    rw [if_neg (by omega)]
    have h1 := h.v (j - 1) (by omega)
    rw [Nat.div_one, Nat.mod_one, pw_zero]
    omega
set_option maxHeartbeats 16000000 in
theorem tEncode_any (M : Txr) (w : World) (hM : TxAt M w) : Calls Tryd.prog 53 #[.agg #[.int .i64 M.S, .slice M.q M.n M.c]] w fun e w' => (∃ v, e = .returned (.tuple #[v, .int .i64 (chkT M.S M.n M.f)]) ∧ RowR w' v (encTL (chkT M.S M.n M.f) M.n) (encT M.S M.f)) ∧ Below w.heap.size w w' := by
  have HM := Lib.hid hM
  have CK := Lib.hid (tCheck_any M)
  have GD := Lib.hid (@tchk_good M.S M.n M.f)
  obtain ⟨S, q, n, c, f⟩ := M
  dsimp only at *
  generalize chkT S n f = z at *
  clear hM
  by_cases hz : z = 0
  · subst hz
    have GO := GD.out rfl
    clear GD
    rw [show encTL 0 n = 1 + n * 3 from rfl]
    have EQ : Hid (∀ w v, RowR w v (1 + n * 3) (outF (outF (fun _ => 0) 0 1 (fun _ => S)) 1 1 f) → RowR w v (1 + n * 3) (encT S f)) := Lib.hid (fun w v h => h.congr (fun j hj => enc_out GO j hj))
    obtain ⟨s, eS, hs, hn⟩ := GO.cnt
    have gv := GO.v
    have n256 : n ≤ 256 := by rcases hs with e | e | e | e | e <;> subst e <;> omega
    have s16 : 0 ≤ S ∧ S ≤ 16 := by omega
    have rS : IntKind.u64.wrap S = S := IntWalk.u64_in _ (by omega)
    have C1 := Lib.hid (fun p w hp => Put_ok none p 0 0 1 1 1 1 (fun _ => 0) (fun _ => S) rfl (by decide) (by decide) (fun k hk => by omega) (fun k hk => fit_1 (by omega)) (by decide) (by decide) (by decide) (by decide) (by decide) (by decide) w (.inl rfl) hp)
    have C2 := Lib.hid (fun q c hc1 hc2 p c2 h1 h2 w hq hp => Put_ok q p 1 c (n * 3) c2 1 (1 + n * 3) (outF (fun _ => 0) 0 1 (fun _ => S)) f (by omega) (by decide) (by decide) (fun k hk => by have := gv k hk; omega) (fun k hk => fit_1 (by have := gv k hk; omega)) hc1 hc2 h1 h2 (by omega) (by omega) w hq hp)
    have BU := Lib.hid (fun j (hj : j < n * 3) => show IntKind.u64.wrap (f j) = f j from IntWalk.u64_in _ (by have := gv j hj; omega))
    have HV := Lib.hid HM.out.t
    dsimp only at HV
    have LX := Lib.hid n256
    generalize outF (outF (fun _ => 0) 0 1 (fun _ => S)) 1 1 f = E2 at *
    generalize outF (fun _ => 0) 0 1 (fun _ => S) = E1 at *
    have CL : Hid ([Value.int .u64 S] = nums .u64 (fun _ => S) 1) := Lib.hid rfl
    generalize encT S f = EE at *
    clear eS hs hn gv n256 s16 GO
    go_enter Tryd.func53, Tryd.ntmps53
    go_upto_region 1 with fail
    obtain ⟨W0, hW⟩ : ∃ W0, W0 = (w.alloc (.cells #[.int .i64 S, .slice q n c] 28)) := ⟨_, rfl⟩
    have hB0 : Below w.heap.size w W0 := hW ▸ (Below.al (Below.refl _ _))
    have HA : Hid (Own w.heap.size [.int .i64 S, .slice q n c] W0) := Lib.hid (hW ▸ (Own.newAt (by simp)))
    rw [← hW]
    clear hW
    obtain ⟨A, eA⟩ : ∃ X, X = w.heap.size := ⟨_, rfl⟩
    rw [← eA] at HA ⊢
    clear eA
    have HM0 := Lib.hid (HM.out.later hB0)
    have A0 := HA.out.at 0 _ rfl; have A1 := HA.out.at 1 _ rfl; have Al := HA.out.lt
    go_wp2_with (fail)
    go_at_call 67
    refine (CK.out _ HM0.out).mono ?_
    rintro e w1 ⟨rfl, hb⟩
    have HA1 := Lib.hid (HA.out.later hb)
    have HB1 := Lib.hid (Below.go hB0 hb)
    have HV1 := Lib.hid (HV.out.later HB1.out)
    clear hb hB0 HM HM0 HA CK A0 A1 Al HV
    obtain ⟨u0, ui, uz0, uz1, uz2⟩ := infoQ_parts
    have A1 := HA1.out.at 1 _ rfl; have Al := HA1.out.lt
    go_wp2_with (fail)
    clear A1 Al
    go_loopw [5, 20] (fun v iv wr => ∃ (k t : Nat) (p3 : Option Addr) (c3 : Nat), k ≤ n ∧ Hid (t = k * 3) ∧ v = .slice p3 t c3 ∧ iv = .int .i64 k ∧ Hid (wr.ownsRow w1.heap.size 82 1 (.slice p3 t c3) t (nums .u64 f t)) ∧ Hid (Below w1.heap.size w1 wr)) (fun _ iv _ => (n - (intOf iv).toNat))
    case atStart => exact ⟨0, 0, none, 0, Nat.zero_le _, Lib.hid (Nat.zero_mul _).symm, rfl, rfl, Lib.hid (World.ownsRow_nil _ _ _ _), Lib.hid (Below.refl _ _)⟩
    case round =>
      obtain ⟨k, t, p3, c3, hk, HT, rfl, rfl, ROW, HB⟩ := hrel
      by_cases hlt : k < n
      · obtain ⟨D, o, rfl, hD, c0, c1, c2⟩ := (HV1.out.later HB.out).at3 hlt
        have hki : (k : Int) < (n : Int) := by omega
        have k0 : (0 : Int) ≤ (k : Int) := by omega
        have wk : IntKind.i64.wrap ((k : Int) + 1) = (k : Int) + 1 := IntWalk.i64_in _ (by have := LX.out; omega)
        have HLT := Lib.hid hlt
        obtain ⟨x0, ex0⟩ : ∃ x, f (k * 3) = x := ⟨_, rfl⟩
        rw [ex0] at c0
        have wx0 : IntKind.u64.wrap x0 = x0 := by rw [← ex0]; exact BU.out _ (by omega)
        obtain ⟨x1, ex1⟩ : ∃ x, f (k * 3 + 1) = x := ⟨_, rfl⟩
        rw [ex1] at c1
        have wx1 : IntKind.u64.wrap x1 = x1 := by rw [← ex1]; exact BU.out _ (by omega)
        obtain ⟨x2, ex2⟩ : ∃ x, f (k * 3 + 2) = x := ⟨_, rfl⟩
        rw [ex2] at c2
        have wx2 : IntKind.u64.wrap x2 = x2 := by rw [← ex2]; exact BU.out _ (by omega)
        have XS0 : Hid (nums .u64 f (t + 0) ++ [.int .u64 x0] = nums .u64 f (t + 0 + 1)) := Lib.hid (by
          refine nums_append .u64 f (fun _ => x0) (t + 0) 1 (fun i hi => ?_)
          obtain rfl : i = 0 := by omega
          rw [HT.out]
          exact ex0)
        have XS1 : Hid (nums .u64 f (t + 1) ++ [.int .u64 x1] = nums .u64 f (t + 1 + 1)) := Lib.hid (by
          refine nums_append .u64 f (fun _ => x1) (t + 1) 1 (fun i hi => ?_)
          obtain rfl : i = 0 := by omega
          rw [HT.out]
          exact ex1)
        have XS2 : Hid (nums .u64 f (t + 2) ++ [.int .u64 x2] = nums .u64 f (t + 2 + 1)) := Lib.hid (by
          refine nums_append .u64 f (fun _ => x2) (t + 2) 1 (fun i hi => ?_)
          obtain rfl : i = 0 := by omega
          rw [HT.out]
          exact ex2)
        have HT2 : Hid (t + 0 + 1 + 1 + 1 = (k + 1) * 3) := Lib.hid (by have := HT.out; omega)
        have T800 : t ≤ 800 := by rw [HT.out]; have := LX.out; omega
        have N63 := Lib.hid (show t + 3 ≤ maxLen by unfold maxLen; omega)
        have NBY := Lib.hid (show (t + 3) * 8 ≤ 140737488355328 by omega)
        clear hk hlt T800 ex0 ex1 ex2
        go_upto_region 8 with fail
        clear hD c0 c1 c2
        obtain ⟨y0, hW⟩ : ∃ y0, y0 = (wr.alloc (.cells #[.int .i64 x0, .int .i64 x1, .int .i64 x2] 29)) := ⟨_, rfl⟩
        have hBx : Below wr.heap.size wr y0 := hW ▸ (Below.al (Below.refl _ _))
        have HQ : Hid (Own wr.heap.size ([.int .i64 x0, .int .i64 x1, .int .i64 x2]) y0) := Lib.hid (hW ▸ (show Own wr.heap.size ([.int .i64 x0, .int .i64 x1, .int .i64 x2]) (wr.alloc (.cells #[.int .i64 x0, .int .i64 x1, .int .i64 x2] 29)) from Own.newAt (by simp)))
        rw [← hW]
        clear hW
        obtain ⟨Q, eQ⟩ : ∃ X, X = wr.heap.size := ⟨_, rfl⟩
        rw [← eQ] at HQ ⊢
        clear eQ
        have ROW0 := Lib.hid (row_later ROW.out hBx)
        have HB0 := Lib.hid (Below.go HB.out hBx)
        clear hBx ROW HB
        have Q0 := HQ.out.at 0 _ rfl; have Q1 := HQ.out.at 1 _ rfl; have Q2 := HQ.out.at 2 _ rfl; have Ql := HQ.out.lt
        rw [show (Value.slice p3 t c3) = .slice p3 (t + 0) c3 from rfl]
        have ROW0_ : Hid (y0.ownsRow w1.heap.size 82 1 (.slice p3 (t + 0) c3) (t + 0) (nums .u64 f (t + 0))) := ROW0
        clear ROW0
        have ROW0 := ROW0_
        clear ROW0_
        go_wp2_with (fail)
        clear Q0 Q1 Q2 Ql
        refine wp_loop_rounds 4 ?_
        rw [rounds_succ]
        have HS0 : Hid (w1.heap.size ≤ (y0.alloc (.cells #[.int .u64 x0] 82)).heap.size) := Lib.hid (Below.al HB0.out).size
        go_wp2_with (at_builtin; refine wpList_append_own _ rfl _ _ 97 rfl w1.heap.size 82 u0 (.int .u64 0) 1 8 Tryd.underlying97 ui uz0 uz1 uz2 rfl (by decide) _ (t + 0) _ rfl (row_later ROW0.out (Below.al (Below.refl _ _))) ⟨y0.heap.size, 0, none⟩ 1 1 [.int .u64 x0] rfl rfl (Own.newAt (by rfl)).news (by intro v hv; simp at hv; subst hv; rfl) (by have := N63.out; omega) (by have := NBY.out; omega) HS0.out ?_; intro v' y1 hrow hgr _; obtain ⟨p0_, c0_, rfl, _⟩ := row_form hrow; have HB1 := Lib.hid ((Below.al HB0.out).grown hgr (Below.al HB0.out).size fun q hq => row_ge ROW0.out q hq); have ROW1 := Lib.hid (XS0.out ▸ hrow); clear hrow hgr)
        clear ROW0 HB0 HS0
        rw [rounds_succ]
        have HS1 : Hid (w1.heap.size ≤ (y1.alloc (.cells #[.int .u64 x1] 82)).heap.size) := Lib.hid (Below.al HB1.out).size
        go_wp2_with (at_builtin; refine wpList_append_own _ rfl _ _ 97 rfl w1.heap.size 82 u0 (.int .u64 0) 1 8 Tryd.underlying97 ui uz0 uz1 uz2 rfl (by decide) _ (t + 0 + 1) _ rfl (row_later ROW1.out (Below.al (Below.refl _ _))) ⟨y1.heap.size, 0, none⟩ 1 1 [.int .u64 x1] rfl rfl (Own.newAt (by rfl)).news (by intro v hv; simp at hv; subst hv; rfl) (by have := N63.out; omega) (by have := NBY.out; omega) HS1.out ?_; intro v' y2 hrow hgr _; obtain ⟨p1_, c1_, rfl, _⟩ := row_form hrow; have HB2 := Lib.hid ((Below.al HB1.out).grown hgr (Below.al HB1.out).size fun q hq => row_ge ROW1.out q hq); have ROW2 := Lib.hid (XS1.out ▸ hrow); clear hrow hgr)
        clear ROW1 HB1 HS1
        rw [rounds_succ]
        have HS2 : Hid (w1.heap.size ≤ (y2.alloc (.cells #[.int .u64 x2] 82)).heap.size) := Lib.hid (Below.al HB2.out).size
        go_wp2_with (at_builtin; refine wpList_append_own _ rfl _ _ 97 rfl w1.heap.size 82 u0 (.int .u64 0) 1 8 Tryd.underlying97 ui uz0 uz1 uz2 rfl (by decide) _ (t + 0 + 1 + 1) _ rfl (row_later ROW2.out (Below.al (Below.refl _ _))) ⟨y2.heap.size, 0, none⟩ 1 1 [.int .u64 x2] rfl rfl (Own.newAt (by rfl)).news (by intro v hv; simp at hv; subst hv; rfl) (by have := N63.out; omega) (by have := NBY.out; omega) HS2.out ?_; intro v' y3 hrow hgr _; obtain ⟨p2_, c2_, rfl, _⟩ := row_form hrow; have HB3 := Lib.hid ((Below.al HB2.out).grown hgr (Below.al HB2.out).size fun q hq => row_ge ROW2.out q hq); have ROW3 := Lib.hid (XS2.out ▸ hrow); clear hrow hgr)
        clear ROW2 HB2 HS2
        rw [rounds_succ]
        go_wp2_with (fail)
        go_roundw
        case rel => (first | exact ⟨k + 1, t + 0 + 1 + 1 + 1, _, _, HLT.out, HT2, rfl, by go_num, ROW3, HB3⟩ | ((repeat apply Exists.intro); exact ⟨⟨k + 1, t + 0 + 1 + 1 + 1, _, _, HLT.out, HT2, rfl, by go_num, ROW3, HB3⟩, rfl⟩))
        case measure => (have := HLT.out; simp [intOf]; omega)
      · obtain rfl : k = n := by omega
        clear hlt hk
        obtain ⟨w2, rfl⟩ : ∃ x, x = wr := ⟨_, rfl⟩
        have B1 := HB.out
        have NM1 := Lib.hid (nm_row ROW.out).2; have cap := row_cap_ ROW.out
        have CP1 := Lib.hid cap
        have HA2 := Lib.hid (HA1.out.later B1)
        have HB2 := Lib.hid (Below.go HB1.out B1)
        clear HA1 HB1 HB ROW cap B1 HV1 BU
        have A0 := HA2.out.at 0 _ rfl; have Al := HA2.out.lt
        have C2_ := C2.out
        rw [← HT.out] at C2_
        have C2t := Lib.hid C2_
        clear C2 C2_
        go_wp2_with (fail)
        go_at_call 65
        refine (C1.out _ _ (nm_new CL.out)).mono ?_
        rintro e w5 ⟨⟨v1, rfl, q1, a1, rfl, hn, hx, hby⟩, hb0⟩
        have hb := Below.go (Below.al (o := .cells #[.int .u64 S] 82) (Below.refl w2.heap.size w2)) hb0
        have BY1 := Lib.hid hby
        have X1 := Lib.hid (And.intro hn hx)
        have NM2 := Lib.hid (NM1.out.later hb)
        have HB3 := Lib.hid (Below.go HB2.out hb)
        clear hn hx hby hb hb0 HB2 A0 Al C1 NM1
        go_wp2_with (fail)
        go_at_call 65
        refine (C2t.out q1 a1 X1.out.1 X1.out.2 _ _ CP1.out.1 CP1.out.2 _ BY1.out NM2.out).mono ?_
        rintro e w6 ⟨⟨v2, rfl, hr⟩, hb⟩
        have RW := Lib.hid (EQ.out _ _ (HT.out ▸ hr))
        have HB4 := Lib.hid (Below.go HB3.out hb)
        clear hr hb HB3 NM2 BY1 C2t
        go_wp2_with (fail)
        exact bodyPost_ret (v := .tuple #[v2, .int .i64 0]) (by simp [results, Tryd.results53, go_sem]) rfl ⟨⟨_, rfl, RW.out⟩, HB4.out⟩
  · have hd : (z != 0) = true := by simpa using hz
    rw [show encTL z n = 0 from if_neg hz]
    clear GD
    go_enter Tryd.func53, Tryd.ntmps53
    go_upto_region 1 with fail
    obtain ⟨W0, hW⟩ : ∃ W0, W0 = (w.alloc (.cells #[.int .i64 S, .slice q n c] 28)) := ⟨_, rfl⟩
    have hB0 : Below w.heap.size w W0 := hW ▸ (Below.al (Below.refl _ _))
    have HA : Hid (Own w.heap.size [.int .i64 S, .slice q n c] W0) := Lib.hid (hW ▸ (Own.newAt (by simp)))
    rw [← hW]
    clear hW
    obtain ⟨A, eA⟩ : ∃ X, X = w.heap.size := ⟨_, rfl⟩
    rw [← eA] at HA ⊢
    clear eA
    have HM0 := Lib.hid (HM.out.later hB0)
    have A0 := HA.out.at 0 _ rfl; have A1 := HA.out.at 1 _ rfl; have Al := HA.out.lt
    go_wp2_with (fail)
    go_at_call 67
    refine (CK.out _ HM0.out).mono ?_
    rintro e w1 ⟨rfl, hb⟩
    have HB1 := Lib.hid (Below.go hB0 hb)
    clear hb hB0 HM HM0 HA CK A0 A1 Al
    go_wp2_with (fail)
    exact bodyPost_ret (v := .tuple #[.slice none 0 0, .int .i64 z]) (by simp [results, Tryd.results53, go_sem]) rfl ⟨⟨_, rfl, none, 0, rfl, Nat.le_refl _, by decide, .inl rfl⟩, HB1.out⟩
end Go.Proofs.YtokfhhngnpbdkaaDoor

/- UF -/
namespace Go.Proofs.YtokfhhngnpbdkaaDoor
set_option linter.unusedVariables false
set_option maxRecDepth 2000
set_option linter.unusedSimpArgs false
open Go.RowKit
set_option maxHeartbeats 16000000 in
theorem tREncode_any (M : Txr) (w : World) (hM : TxAt M w) : Calls Tryd.prog 49 #[.agg #[.int .i64 M.S, .slice M.q M.n M.c]] w fun e w' => (∃ v, e = .returned (.tuple #[v, .int .i64 (chkT M.S M.n M.f)]) ∧ RowR w' v (encTL (chkT M.S M.n M.f) M.n) (encT M.S M.f)) ∧ Below w.heap.size w w' := by
  have HM := Lib.hid hM
  have CK := Lib.hid (tRCheck_any M)
  have GD := Lib.hid (@tchk_good M.S M.n M.f)
  obtain ⟨S, q, n, c, f⟩ := M
  dsimp only at *
  generalize chkT S n f = z at *
  clear hM
  by_cases hz : z = 0
  · subst hz
    have GO := GD.out rfl
    clear GD
    rw [show encTL 0 n = 1 + n * 3 from rfl]
    obtain ⟨s, eS, hs, hn⟩ := GO.cnt
    have gv := GO.v
    have n256 : n ≤ 256 := by rcases hs with e | e | e | e | e <;> subst e <;> omega
    have s16 : 0 ≤ S ∧ S ≤ 16 := by omega
    have rS : IntKind.u8.wrap S = S := IntWalk.u8_in _ (by omega)
    have BU := Lib.hid (fun j (hj : j < n * 3) => show IntKind.u8.wrap (f j) = f j from IntWalk.u8_in _ (by have := gv j hj; omega))
    have HV := Lib.hid HM.out.t
    dsimp only at HV
    have LX := Lib.hid n256
    have CL : Hid ([Value.int .u8 S] = nums .u8 (encT S f) 1) := Lib.hid rfl
    have CE : Hid (∀ t, encT S f (t + 1) = f t) := Lib.hid (fun t => rfl)
    generalize encT S f = EE at *
    clear eS hs hn gv n256 s16 GO
    go_enter Tryd.func49, Tryd.ntmps49
    go_upto_region 1 with fail
    obtain ⟨W0, hW⟩ : ∃ W0, W0 = (w.alloc (.cells #[.int .i64 S, .slice q n c] 28)) := ⟨_, rfl⟩
    have hB0 : Below w.heap.size w W0 := hW ▸ (Below.al (Below.refl _ _))
    have HA : Hid (Own w.heap.size [.int .i64 S, .slice q n c] W0) := Lib.hid (hW ▸ (Own.newAt (by simp)))
    rw [← hW]
    clear hW
    obtain ⟨A, eA⟩ : ∃ X, X = w.heap.size := ⟨_, rfl⟩
    rw [← eA] at HA ⊢
    clear eA
    have HM0 := Lib.hid (HM.out.later hB0)
    have A0 := HA.out.at 0 _ rfl; have A1 := HA.out.at 1 _ rfl; have Al := HA.out.lt
    go_wp2_with (fail)
    go_at_call 31
    refine (CK.out _ HM0.out).mono ?_
    rintro e w1 ⟨rfl, hb⟩
    have HA1 := Lib.hid (HA.out.later hb)
    have HB1 := Lib.hid (Below.go hB0 hb)
    have HV1 := Lib.hid (HV.out.later HB1.out)
    clear hb hB0 HM HM0 HA CK A0 A1 Al HV
    obtain ⟨i0, hi, hz0, hz1, hz2⟩ := infoB_parts
    have A0 := HA1.out.at 0 _ rfl; have Al := HA1.out.lt
    go_wp2_with (fail)
    clear A0 Al
    go_loopw [5, 6] (fun v iv wr => ∃ (k t : Nat) (p3 : Option Addr) (c3 : Nat), k ≤ n ∧ Hid (t = k * 3) ∧ v = .slice p3 (t + 1) c3 ∧ iv = .int .i64 k ∧ Hid (wr.ownsRow w1.heap.size 5 1 (.slice p3 (t + 1) c3) (t + 1) (nums .u8 EE (t + 1))) ∧ Hid (Below w1.heap.size w1 wr)) (fun _ iv _ => (n - (intOf iv).toNat))
    case atStart => exact ⟨0, 0, _, _, Nat.zero_le _, Lib.hid (Nat.zero_mul _).symm, rfl, rfl, Lib.hid (by rw [← CL.out]; exact World.ownsRow_lit w1 #[.int .u8 S] 1 (Nat.le_refl _) (by decide) rfl), Lib.hid (Below.al (Below.refl _ _))⟩
    case round =>
      obtain ⟨k, t, p3, c3, hk, HT, rfl, rfl, ROW, HB⟩ := hrel
      by_cases hlt : k < n
      · have hki : (k : Int) < (n : Int) := by omega
        have k0 : (0 : Int) ≤ (k : Int) := by omega
        have wk : IntKind.i64.wrap ((k : Int) + 1) = (k : Int) + 1 := IntWalk.i64_in _ (by have := LX.out; omega)
        have HLT := Lib.hid hlt
        obtain ⟨x0, ex0⟩ : ∃ x, f (k * 3) = x := ⟨_, rfl⟩
        have wx0 : IntKind.u8.wrap x0 = x0 := by rw [← ex0]; exact BU.out _ (by omega)
        obtain ⟨x1, ex1⟩ : ∃ x, f (k * 3 + 1) = x := ⟨_, rfl⟩
        have wx1 : IntKind.u8.wrap x1 = x1 := by rw [← ex1]; exact BU.out _ (by omega)
        obtain ⟨x2, ex2⟩ : ∃ x, f (k * 3 + 2) = x := ⟨_, rfl⟩
        have wx2 : IntKind.u8.wrap x2 = x2 := by rw [← ex2]; exact BU.out _ (by omega)
        have XS0 : Hid (nums .u8 EE (t + 1 + 0) ++ [.int .u8 x0] = nums .u8 EE (t + 1 + 0 + 1)) := Lib.hid (by
          refine nums_append .u8 EE (fun _ => x0) (t + 1 + 0) 1 (fun i hi => ?_)
          obtain rfl : i = 0 := by omega
          rw [show t + 1 + 0 + 0 = t + 0 + 1 by omega, CE.out, HT.out]
          exact ex0)
        have XS1 : Hid (nums .u8 EE (t + 1 + 1) ++ [.int .u8 x1] = nums .u8 EE (t + 1 + 1 + 1)) := Lib.hid (by
          refine nums_append .u8 EE (fun _ => x1) (t + 1 + 1) 1 (fun i hi => ?_)
          obtain rfl : i = 0 := by omega
          rw [show t + 1 + 1 + 0 = t + 1 + 1 by omega, CE.out, HT.out]
          exact ex1)
        have XS2 : Hid (nums .u8 EE (t + 1 + 2) ++ [.int .u8 x2] = nums .u8 EE (t + 1 + 2 + 1)) := Lib.hid (by
          refine nums_append .u8 EE (fun _ => x2) (t + 1 + 2) 1 (fun i hi => ?_)
          obtain rfl : i = 0 := by omega
          rw [show t + 1 + 2 + 0 = t + 2 + 1 by omega, CE.out, HT.out]
          exact ex2)
        obtain ⟨D, o, rfl, HH⟩ := HV1.out.resolve_left (by omega)
        have HD0 : Hid (∀ w', Below w1.heap.size w1 w' → D < w'.heap.size ∧ w'.cell? ⟨D, o + k * 3, none⟩ = some (.int .i64 x0) ∧ w'.cell? ⟨D, o + k * 3 + 1, none⟩ = some (.int .i64 x1) ∧ w'.cell? ⟨D, o + k * 3 + 2, none⟩ = some (.int .i64 x2)) := Lib.hid (fun w' hb => by
          obtain ⟨D', o', e', h'⟩ := (NmS.at3 (.inr ⟨D, o, rfl, HH.later hb⟩) hlt)
          obtain ⟨rfl, rfl⟩ : D = D' ∧ o = o' := by simpa using e'
          rw [ex0, ex1, ex2] at h'
          exact h')
        clear HH
        have HT2 : Hid (t + 1 + 1 + 1 + 1 = (k + 1) * 3 + 1) := Lib.hid (by have := HT.out; omega)
        have T800 : t ≤ 800 := by rw [HT.out]; have := LX.out; omega
        have N63 := Lib.hid (show t + 4 ≤ maxLen by unfold maxLen; omega)
        have NBY := Lib.hid (show (t + 4) * 1 ≤ 140737488355328 by omega)
        clear hk hlt T800 ex0 ex1 ex2
        have A1 := (HA1.out.later HB.out).at 1 _ rfl; have Al := (HA1.out.later HB.out).lt
        go_wp2_with (fail)
        clear A1 Al
        obtain ⟨y0, rfl⟩ : ∃ x, x = wr := ⟨_, rfl⟩
        have ROW0 := ROW; have HB0 := HB
        clear ROW HB
        refine wp_loop_rounds 4 ?_
        rw [rounds_succ]
        have HS0 : Hid (w1.heap.size ≤ (y0.alloc (.cells #[.int .u8 x0] 5)).heap.size) := Lib.hid (Below.al HB0.out).size
        have A1 := (HA1.out.later HB0.out).at 1 _ rfl; have Al := (HA1.out.later HB0.out).lt
        obtain ⟨hD0, b0, b1, b2⟩ := HD0.out _ HB0.out
        go_wp2_with (at_builtin; refine wpList_append_own _ rfl _ _ 48 rfl w1.heap.size 5 i0 (.int .u8 0) 1 1 Tryd.underlying48 hi hz0 hz1 hz2 rfl (by decide) _ (t + 1) _ rfl (row_later ROW0.out (Below.al (Below.refl _ _))) ⟨y0.heap.size, 0, none⟩ 1 1 [.int .u8 x0] rfl rfl (Own.newAt (by rfl)).news (by intro v hv; simp at hv; subst hv; rfl) (by have := N63.out; omega) (by have := NBY.out; omega) HS0.out ?_; intro v' y1 hrow hgr _; obtain ⟨p0_, c0_, rfl, _⟩ := row_form hrow; have HB1 := Lib.hid ((Below.al HB0.out).grown hgr (Below.al HB0.out).size fun q hq => row_ge ROW0.out q hq); have ROW1 := Lib.hid (XS0.out ▸ hrow); clear hrow hgr)
        clear ROW0 HB0 HS0 A1 Al hD0 b0 b1 b2
        rw [rounds_succ]
        have HS1 : Hid (w1.heap.size ≤ (y1.alloc (.cells #[.int .u8 x1] 5)).heap.size) := Lib.hid (Below.al HB1.out).size
        have A1 := (HA1.out.later HB1.out).at 1 _ rfl; have Al := (HA1.out.later HB1.out).lt
        obtain ⟨hD1, b0, b1, b2⟩ := HD0.out _ HB1.out
        go_wp2_with (at_builtin; refine wpList_append_own _ rfl _ _ 48 rfl w1.heap.size 5 i0 (.int .u8 0) 1 1 Tryd.underlying48 hi hz0 hz1 hz2 rfl (by decide) _ (t + 1 + 1) _ rfl (row_later ROW1.out (Below.al (Below.refl _ _))) ⟨y1.heap.size, 0, none⟩ 1 1 [.int .u8 x1] rfl rfl (Own.newAt (by rfl)).news (by intro v hv; simp at hv; subst hv; rfl) (by have := N63.out; omega) (by have := NBY.out; omega) HS1.out ?_; intro v' y2 hrow hgr _; obtain ⟨p1_, c1_, rfl, _⟩ := row_form hrow; have HB2 := Lib.hid ((Below.al HB1.out).grown hgr (Below.al HB1.out).size fun q hq => row_ge ROW1.out q hq); have ROW2 := Lib.hid (XS1.out ▸ hrow); clear hrow hgr)
        clear ROW1 HB1 HS1 A1 Al hD1 b0 b1 b2
        rw [rounds_succ]
        have HS2 : Hid (w1.heap.size ≤ (y2.alloc (.cells #[.int .u8 x2] 5)).heap.size) := Lib.hid (Below.al HB2.out).size
        have A1 := (HA1.out.later HB2.out).at 1 _ rfl; have Al := (HA1.out.later HB2.out).lt
        obtain ⟨hD2, b0, b1, b2⟩ := HD0.out _ HB2.out
        go_wp2_with (at_builtin; refine wpList_append_own _ rfl _ _ 48 rfl w1.heap.size 5 i0 (.int .u8 0) 1 1 Tryd.underlying48 hi hz0 hz1 hz2 rfl (by decide) _ (t + 1 + 1 + 1) _ rfl (row_later ROW2.out (Below.al (Below.refl _ _))) ⟨y2.heap.size, 0, none⟩ 1 1 [.int .u8 x2] rfl rfl (Own.newAt (by rfl)).news (by intro v hv; simp at hv; subst hv; rfl) (by have := N63.out; omega) (by have := NBY.out; omega) HS2.out ?_; intro v' y3 hrow hgr _; obtain ⟨p2_, c2_, rfl, _⟩ := row_form hrow; have HB3 := Lib.hid ((Below.al HB2.out).grown hgr (Below.al HB2.out).size fun q hq => row_ge ROW2.out q hq); have ROW3 := Lib.hid (XS2.out ▸ hrow); clear hrow hgr)
        clear ROW2 HB2 HS2 A1 Al hD2 b0 b1 b2
        rw [rounds_succ]
        go_wp2_with (fail)
        go_roundw
        case rel => (first | exact ⟨k + 1, t + 3, _, _, HLT.out, Lib.hid (by have := HT.out; omega), rfl, by go_num, ROW3, HB3⟩ | ((repeat apply Exists.intro); exact ⟨⟨k + 1, t + 3, _, _, HLT.out, Lib.hid (by have := HT.out; omega), rfl, by go_num, ROW3, HB3⟩, rfl⟩))
        case measure => (have := HLT.out; simp [intOf]; omega)
      · obtain rfl : k = n := by omega
        have A1 := (HA1.out.later HB.out).at 1 _ rfl; have Al := (HA1.out.later HB.out).lt
        have RW := Lib.hid (RowR.of ROW.out)
        rw [HT.out, Nat.add_comm] at RW
        have HB2 := Lib.hid (Below.go HB1.out HB.out)
        clear hlt hk ROW HB HB1 BU
        rw [HT.out, Nat.add_comm]
        go_wp2_with (fail)
        exact bodyPost_ret (v := .tuple #[_, .int .i64 0]) (by simp [results, Tryd.results49, go_sem]) rfl ⟨⟨_, rfl, RW.out⟩, HB2.out⟩
  · have hd : (z != 0) = true := by simpa using hz
    rw [show encTL z n = 0 from if_neg hz]
    clear GD
    go_enter Tryd.func49, Tryd.ntmps49
    go_upto_region 1 with fail
    obtain ⟨W0, hW⟩ : ∃ W0, W0 = (w.alloc (.cells #[.int .i64 S, .slice q n c] 28)) := ⟨_, rfl⟩
    have hB0 : Below w.heap.size w W0 := hW ▸ (Below.al (Below.refl _ _))
    have HA : Hid (Own w.heap.size [.int .i64 S, .slice q n c] W0) := Lib.hid (hW ▸ (Own.newAt (by simp)))
    rw [← hW]
    clear hW
    obtain ⟨A, eA⟩ : ∃ X, X = w.heap.size := ⟨_, rfl⟩
    rw [← eA] at HA ⊢
    clear eA
    have HM0 := Lib.hid (HM.out.later hB0)
    have A0 := HA.out.at 0 _ rfl; have A1 := HA.out.at 1 _ rfl; have Al := HA.out.lt
    go_wp2_with (fail)
    go_at_call 31
    refine (CK.out _ HM0.out).mono ?_
    rintro e w1 ⟨rfl, hb⟩
    have HB1 := Lib.hid (Below.go hB0 hb)
    clear hb hB0 HM HM0 HA CK A0 A1 Al
    go_wp2_with (fail)
    exact bodyPost_ret (v := .tuple #[.slice none 0 0, .int .i64 z]) (by simp [results, Tryd.results49, go_sem]) rfl ⟨⟨_, rfl, none, 0, rfl, Nat.le_refl _, by decide, .inl rfl⟩, HB1.out⟩
end Go.Proofs.YtokfhhngnpbdkaaDoor

/- UH -/
namespace Go.Proofs.YtokfhhngnpbdkaaDoor
set_option linter.unusedVariables false
set_option maxRecDepth 2000
set_option linter.unusedSimpArgs false
open Go.RowKit
/-- a texel's number -/
def txl (f : Nat → Int) (s x y i : Nat) : Int := f ((y * s + x) * 3 + i)
end Go.Proofs.YtokfhhngnpbdkaaDoor

/- UI -/
namespace Go.Proofs.YtokfhhngnpbdkaaDoor
set_option linter.unusedVariables false
set_option maxRecDepth 2000
set_option linter.unusedSimpArgs false
open Go.RowKit
/-- the mean of four numbers -/
def meanF (a b c d : Int) : Int := (a + b + c + d + 2) / 4
def in255 (x : Int) : Prop := 0 ≤ x ∧ x ≤ 255
end Go.Proofs.YtokfhhngnpbdkaaDoor

/- UJ -/
namespace Go.Proofs.YtokfhhngnpbdkaaDoor
set_option linter.unusedVariables false
set_option maxRecDepth 2000
set_option linter.unusedSimpArgs false
open Go.RowKit
/-- a column or row modulo the side -/
def mdN (x : Int) (s : Nat) : Nat := (x % (s : Int)).toNat
end Go.Proofs.YtokfhhngnpbdkaaDoor

/- UK -/
namespace Go.Proofs.YtokfhhngnpbdkaaDoor
set_option linter.unusedVariables false
set_option maxRecDepth 2000
set_option linter.unusedSimpArgs false
open Go.RowKit
/-- a number of the texel in column x and row y of the half -/
def hlfT (f : Nat → Int) (s x y i : Nat) : Int := meanF (txl f s (2 * x) (2 * y) i) (txl f s (2 * x + 1) (2 * y) i) (txl f s (2 * x) (2 * y + 1) i) (txl f s (2 * x + 1) (2 * y + 1) i)
/-- the numbers of the half -/
def hlfF (f : Nat → Int) (s h j : Nat) : Int := hlfT f s (j / 3 % h) (j / 3 / h) (j % 3)
theorem infoX : (Tryd.prog.info? 29).map (fun i => (i.zero, i.size, i.bytes)) = some (some (.agg #[.int .i64 0, .int .i64 0, .int .i64 0]), 3, 24) := by kernel_rfl
theorem infoX_parts : ∃ i, Tryd.prog.info? 29 = some i ∧ i.zero = some (.agg #[.int .i64 0, .int .i64 0, .int .i64 0]) ∧ i.size = 3 ∧ i.bytes = 24 := by
  obtain ⟨i, hi, h⟩ := Option.map_eq_some_iff.1 infoX
  simp only [Prod.mk.injEq] at h
  exact ⟨i, hi, h.1, h.2.1, h.2.2⟩
end Go.Proofs.YtokfhhngnpbdkaaDoor

/- UL -/
namespace Go.Proofs.YtokfhhngnpbdkaaDoor
set_option linter.unusedVariables false
set_option maxRecDepth 2000
set_option linter.unusedSimpArgs false
open Go.RowKit
/-- a half's error -/
def hlfE (S : Int) (z : Int) : Int := if z = 0 then (if S = 1 then 2 else 0) else z
end Go.Proofs.YtokfhhngnpbdkaaDoor

/- UP -/
namespace Go.Proofs.YtokfhhngnpbdkaaDoor
set_option linter.unusedVariables false
set_option maxRecDepth 2000
set_option linter.unusedSimpArgs false
open Go.RowKit
attribute [local go_sem ↓] eq3_run neq3_run
def wkT (j : Nat) : Int := [(0 : Int), 0, 0, 1, 0, 0, 2, 0, 0, 4, 0, 0].getD j 0
end Go.Proofs.YtokfhhngnpbdkaaDoor

