/- UA UB UC UD UE UF UH UI UJ UK UL UP, in one text. -/
import Derived.Test.YtbhdlpndmbhaiaaSH
import Derived.Lib.Hide
import Derived.LoopN
import Derived.LoopTactic
import Derived.Deep.Onto
import Derived.Deep.RegionHeld3
import Derived.Deep.QuietTactic
import Derived.BigQuiet
import Derived.Test.YtbhdlpndmbhaiaaDG
import Derived.StillTailTactics
import Derived.Lib.SliceRun
import Derived.Test.YtbhdlpndmbhaiaaSI
import Derived.Great.BuildSlice
import Derived.Test.YtbhdlpndmbhaiaaSN
import Derived.Test.YtbhdlpndmbhaiaaCQ
/- UA -/
namespace Go.Proofs.Ytbhdlpndmbhaiaa
set_option linter.unusedVariables false
set_option maxRecDepth 2000
set_option linter.unusedSimpArgs false
open Go.RowKit
/-- a texture -/
structure Txr where
  S : Int
  q : Option Addr
  n : Nat
  c : Nat
  f : Nat → Int
structure TxAt (M : Txr) (w : World) : Prop where
  t : NmS w 3 M.q M.n M.f
  l : M.n ≤ M.c
  m : M.c ≤ 9223372036854775807
theorem TxAt.later {M : Txr} {w w' : World} (h : TxAt M w) (hb : Below w.heap.size w w') : TxAt M w' := ⟨h.t.later hb, h.l, h.m⟩
/-- what is asked of a side, of a texel -/
def okS (S : Int) : Bool := decide (S = 1 ∨ S = 2 ∨ S = 4 ∨ S = 8 ∨ S = 16)
def okX (x y z : Int) : Bool := decide ((0 ≤ x ∧ x ≤ 255) ∧ (0 ≤ y ∧ y ≤ 255) ∧ (0 ≤ z ∧ z ≤ 255))
def okXs (f : Nat → Int) (i : Nat) : Bool := okX (f (i * 3)) (f (i * 3 + 1)) (f (i * 3 + 2))
/-- the error of a texture -/
def chkT (S : Int) (n : Nat) (f : Nat → Int) : Int := if okS S = false ∨ (n : Int) ≠ S * S then 5 else if allB (okXs f) n = false then 5 else 0
/-- what a texture without a fault is -/
structure GoodT (S : Int) (n : Nat) (f : Nat → Int) : Prop where
  s : S = 1 ∨ S = 2 ∨ S = 4 ∨ S = 8 ∨ S = 16
  k : (n : Int) = S * S
  v : ∀ j, j < n * 3 → 0 ≤ f j ∧ f j ≤ 255
theorem okS_iff {S : Int} : okS S = true ↔ S = 1 ∨ S = 2 ∨ S = 4 ∨ S = 8 ∨ S = 16 := decide_eq_true_iff
theorem okX_iff {x y z : Int} : okX x y z = true ↔ (0 ≤ x ∧ x ≤ 255) ∧ (0 ≤ y ∧ y ≤ 255) ∧ (0 ≤ z ∧ z ≤ 255) := decide_eq_true_iff
theorem tchk_1 {S : Int} {n : Nat} {f : Nat → Int} (h : okS S = false ∨ (n : Int) ≠ S * S) : chkT S n f = 5 := if_pos h
theorem tchk_2 {S : Int} {n : Nat} {f : Nat → Int} (h : ¬(okS S = false ∨ (n : Int) ≠ S * S)) (h2 : allB (okXs f) n = false) : chkT S n f = 5 := by unfold chkT; rw [if_neg h, if_pos h2]
theorem tchk_3 {S : Int} {n : Nat} {f : Nat → Int} (h : ¬(okS S = false ∨ (n : Int) ≠ S * S)) (h2 : allB (okXs f) n = true) : chkT S n f = 0 := by unfold chkT; rw [if_neg h, if_neg (by simp [h2])]
theorem tchk_or {S : Int} {n : Nat} {f : Nat → Int} : chkT S n f = 0 ∨ chkT S n f = 5 := by
  unfold chkT
  split
  · exact .inr rfl
  · split
    · exact .inr rfl
    · exact .inl rfl
theorem tchk_good {S : Int} {n : Nat} {f : Nat → Int} (h : chkT S n f = 0) : GoodT S n f := by
  by_cases h1 : okS S = false ∨ (n : Int) ≠ S * S
  · rw [tchk_1 h1] at h; omega
  cases h2 : allB (okXs f) n with
  | false => rw [tchk_2 h1 h2] at h; omega
  | true =>
    have a2 := allB_iff.1 h2
    have h3 : okS S = true := by
      cases h4 : okS S with
      | true => rfl
      | false => exact absurd (.inl h4) h1
    refine ⟨okS_iff.1 h3, ?_, by3 fun i hi => ?_⟩
    · exact Classical.byContradiction fun h4 => h1 (.inr h4)
    · exact okX_iff.1 (a2 i hi)
theorem good_tchk {S : Int} {n : Nat} {f : Nat → Int} (h : GoodT S n f) : chkT S n f = 0 := by
  refine tchk_3 (fun hn => ?_) (allB_iff.2 fun i hi => ?_)
  · rcases hn with hn | hn
    · rw [okS_iff.2 h.s] at hn; cases hn
    · exact hn h.k
  · exact okX_iff.2 ⟨h.v _ (by omega), h.v _ (by omega), h.v _ (by omega)⟩
theorem tchk_congr {S : Int} {n : Nat} {f g : Nat → Int} (h : ∀ j, j < n * 3 → f j = g j) : chkT S n f = chkT S n g := by
  have e1 : allB (okXs f) n = allB (okXs g) n := allB_congr fun i hi => by unfold okXs; rw [h _ (by omega), h _ (by omega), h _ (by omega)]
  unfold chkT
  rw [e1]
/-- a side, as a count -/
theorem GoodT.cnt {S : Int} {n : Nat} {f : Nat → Int} (h : GoodT S n f) : ∃ s : Nat, S = (s : Int) ∧ (s = 1 ∨ s = 2 ∨ s = 4 ∨ s = 8 ∨ s = 16) ∧ n = s * s := by
  have hn := h.k
  rcases h.s with e | e | e | e | e <;> subst e
  · exact ⟨1, rfl, by omega, by omega⟩
  · exact ⟨2, rfl, by omega, by omega⟩
  · exact ⟨4, rfl, by omega, by omega⟩
  · exact ⟨8, rfl, by omega, by omega⟩
  · exact ⟨16, rfl, by omega, by omega⟩
/-- '==' and '!=' of two texels -/
theorem eql3 (a0 a1 a2 b0 b1 b2 : Int) (w : World) : (Op.equalIn 10000 50 (.agg #[.int .i64 a0, .int .i64 a1, .int .i64 a2]) (.agg #[.int .i64 b0, .int .i64 b1, .int .i64 b2])).run Try.prog w = .ok (decide (a0 = b0 ∧ a1 = b1 ∧ a2 = b2)) w := by
    rw [show (10000 : Nat) = 9998 + 2 from rfl, Op.equalIn]
    simp only [Sem.run_bind, run_underlying Try.underlying50, Result.andThen_ok]
    by_cases e0 : a0 = b0 <;> by_cases e1 : a1 = b1 <;> by_cases e2 : a2 = b2 <;> simp [go_sem, List.range', e0, e1, e2]
def eq3B (a0 a1 a2 b0 b1 b2 : Int) : Bool := decide (a0 = b0 ∧ a1 = b1 ∧ a2 = b2)
theorem eq3_run (a0 a1 a2 b0 b1 b2 : Int) (w : World) : (binOp .eql 50 (.agg #[.int .i64 a0, .int .i64 a1, .int .i64 a2]) (.agg #[.int .i64 b0, .int .i64 b1, .int .i64 b2])).run Try.prog w = .ok (.bool (eq3B a0 a1 a2 b0 b1 b2)) w := by
  have h := eql3 a0 a1 a2 b0 b1 b2 w
  simp only [go_sem, h]
  simp [eq3B, go_sem]
theorem neq3_run (a0 a1 a2 b0 b1 b2 : Int) (w : World) : (binOp .neq 50 (.agg #[.int .i64 a0, .int .i64 a1, .int .i64 a2]) (.agg #[.int .i64 b0, .int .i64 b1, .int .i64 b2])).run Try.prog w = .ok (.bool (!eq3B a0 a1 a2 b0 b1 b2)) w := by
  have h := eql3 a0 a1 a2 b0 b1 b2 w
  simp only [go_sem, h]
  simp [eq3B, go_sem]
theorem eq3B_self (a b c : Int) : eq3B a b c a b c = true := decide_eq_true ⟨rfl, rfl, rfl⟩
theorem eq3B_iff {a0 a1 a2 b0 b1 b2 : Int} : eq3B a0 a1 a2 b0 b1 b2 = true ↔ a0 = b0 ∧ a1 = b1 ∧ a2 = b2 := decide_eq_true_iff
end Go.Proofs.Ytbhdlpndmbhaiaa

/- UB -/
namespace Go.Proofs.Ytbhdlpndmbhaiaa
set_option linter.unusedVariables false
set_option maxRecDepth 2000
set_option linter.unusedSimpArgs false
open Go.RowKit
attribute [local go_sem ↓] eq3_run neq3_run ix3_0 ix3_1 ix3_2
theorem retb {b c : Bool} (h : b = true ↔ c = true) : Ending.returned (.bool b) = Ending.returned (.bool c) := by
  cases b <;> cases c <;> simp at h ⊢
set_option maxHeartbeats 2000000 in
theorem isSide_any (S : Int) (w : World) : Calls Try.prog 25 #[.int .i64 S] w fun e w' => e = .returned (.bool (okS S)) ∧ w' = w := by
  have HE := Lib.hid (@okS_iff S)
  generalize okS S = b at *
  go_enter Try.func25, Try.ntmps25
  go_wp2_with (fail)
  all_goals (go_ret; refine ⟨retb ?_, rfl⟩; rw [HE.out]; simp at *; omega)
set_option maxHeartbeats 4000000 in
theorem offColor_any (x y z : Int) (w : World) : Calls Try.prog 27 #[.agg #[.int .i64 x, .int .i64 y, .int .i64 z]] w fun e w' => e = .returned (.bool (!okX x y z)) ∧ Below w.heap.size w w' := by
  have HE := Lib.hid (@okX_iff x y z)
  generalize okX x y z = b at *
  go_enter Try.func27, Try.ntmps27
  go_upto_region 2 with fail
  obtain ⟨W0, hW⟩ : ∃ W0, W0 = ((w.alloc (.cells #[.int .i64 x, .int .i64 y, .int .i64 z] 50)).alloc (.cells #[.int .i64 x, .int .i64 y, .int .i64 z] 50)) := ⟨_, rfl⟩
  have hB0 : Below w.heap.size w W0 := hW ▸ (Below.al (Below.al (Below.refl _ _)))
  have HA : Hid (Own w.heap.size [.int .i64 x, .int .i64 y, .int .i64 z] W0) := Lib.hid (hW ▸ (Own.newAt (by simp)).alloc)
  have HQ : Hid (Own (w.heap.size + 1) [.int .i64 x, .int .i64 y, .int .i64 z] W0) := Lib.hid (hW ▸ (Own.newAt (by simp)))
  rw [← hW]
  clear hW
  obtain ⟨Q, eQ⟩ : ∃ X, X = (w.heap.size + 1) := ⟨_, rfl⟩
  rw [← eQ] at HQ ⊢
  obtain ⟨A, eA⟩ : ∃ X, X = w.heap.size := ⟨_, rfl⟩
  have nAQ : A ≠ Q := by omega
  have hQ : w.heap.size ≤ Q := by omega
  rw [← eA] at HA ⊢
  clear eA eQ
  have HB := Lib.hid hB0
  have HQw := Lib.hid hQ
  clear hB0 hQ
  have A0 := HA.out.at 0 _ rfl; have A1 := HA.out.at 1 _ rfl; have A2 := HA.out.at 2 _ rfl; have Al := HA.out.lt
  go_wp2_with (fail)
  clear A0 A1 A2 Al
  refine wp_loop_rounds 4 ?_
  rw [rounds_succ]
  have Q0 := HQ.out.at 0 _ rfl; have Q0f := HQ.out.ok 0 (by simp); have Q1 := HQ.out.at 1 _ rfl; have Q1f := HQ.out.ok 1 (by simp); have Q2 := HQ.out.at 2 _ rfl; have Q2f := HQ.out.ok 2 (by simp); have Ql := HQ.out.lt
  go_wp2_with (fail)
  rw [rounds_succ]
  go_wp2_with (fail)
  rw [rounds_succ]
  go_wp2_with (fail)
  rw [rounds_succ]
  have A0 := HA.out.at 0 _ rfl; have A1 := HA.out.at 1 _ rfl; have A2 := HA.out.at 2 _ rfl; have Al := HA.out.lt
  go_wp2_with (fail)
  go_ret
  refine ⟨retb ?_, ?_⟩
  · have e : eq3B (min (max x 0) 255) (min (max y 0) 255) (min (max z 0) 255) x y z = b := by
      rw [Bool.eq_iff_iff, HE.out, eq3B_iff]
      omega
    rw [e]
  · exact ((HB.out.setCell (p := ⟨Q, 0, none⟩) HQw.out _).setCell (p := ⟨Q, 1, none⟩) HQw.out _).setCell (p := ⟨Q, 2, none⟩) HQw.out _
set_option maxHeartbeats 4000000 in
theorem IndexX_any (q : Option Addr) (n c : Nat) (V : Nat → Int) (hnc : n ≤ c) (hc : c ≤ 9223372036854775807) (w : World) (hq : NmS w 3 q n V) :
    Calls Try.prog 43 #[.slice q n c, .func (.func 27) #[] #[]] w fun e w' => ∃ z : Int, e = .returned (.int .i64 z) ∧ (0 ≤ z ↔ allB (okXs V) n = false) ∧ Below w.heap.size w w' := by
  have HNC := Lib.hid hnc; have HC := Lib.hid hc; have HQ := Lib.hid hq
  clear hnc hc hq
  go_enter Try.func43, Try.ntmps43
  go_wp2_with (fail)
  go_loopw [5, 8] (fun _ iv wr => ∃ (k : Nat), k ≤ n ∧ iv = .int .i64 k ∧ Hid (∀ j, j < k → okXs V j = true) ∧ Hid (Below w.heap.size w wr)) (fun _ iv _ => (n - (intOf iv).toNat))
  case atStart => exact ⟨0, Nat.zero_le _, rfl, Lib.hid (fun j hj => absurd hj (Nat.not_lt_zero j)), Lib.hid (Below.refl _ _)⟩
  case round =>
    obtain ⟨k, hk, rfl, ALL, HB⟩ := hrel
    by_cases hlt : k < n
    · obtain ⟨D, o, rfl, hD, hh⟩ := (HQ.out.later HB.out).at hlt
      have hki : (k : Int) < (n : Int) := by omega
      have k0 : (0 : Int) ≤ (k : Int) := by omega
      have wk : IntKind.i64.wrap ((k : Int) + 1) = (k : Int) + 1 := IntWalk.i64_in _ (by have := HNC.out; have := HC.out; omega)
      have c0 := hh.at 0 _ rfl; have c1 := hh.at 1 _ rfl; have c2 := hh.at 2 _ rfl
      clear hh
      rw [Nat.add_zero] at c0
      have HLT := Lib.hid hlt
      clear hk hlt
      go_wp2_with (fail)
      go_at_call 27
      refine (offColor_any _ _ _ _).mono ?_
      rintro e w1 ⟨rfl, hb⟩
      have HB1 := Lib.hid (Below.go HB.out hb)
      clear hb HB c0 c1 c2 hD
      obtain ⟨b, eb⟩ : ∃ b, okXs V k = b := ⟨_, rfl⟩
      rw [show okX (V (k * 3)) (V (k * 3 + 1)) (V (k * 3 + 2)) = b from eb]
      cases b with
      | true =>
        have ALL2 : Hid (∀ j, j < k + 1 → okXs V j = true) := Lib.hid fun j hj => (Nat.lt_succ_iff_lt_or_eq.1 hj).elim (ALL.out j) (fun e => by rw [e]; exact eb)
        clear eb ALL
        go_wp2_with (fail)
        go_roundw
        case rel => (first | exact ⟨k + 1, HLT.out, by go_num, ALL2, HB1⟩ | ((repeat apply Exists.intro); exact ⟨⟨k + 1, HLT.out, by go_num, ALL2, HB1⟩, rfl⟩))
        case measure => (have := HLT.out; simp [intOf]; omega)
      | false =>
        have NO : Hid ((0 : Int) ≤ (k : Int) ↔ allB (okXs V) n = false) := Lib.hid ⟨fun _ => allB_not HLT.out eb, fun _ => k0⟩
        clear eb ALL
        go_wp2_with (fail)
        go_ret
        exact ⟨k, rfl, NO.out, HB1.out⟩
    · obtain rfl : k = n := by omega
      have YES : Hid ((0 : Int) ≤ -1 ↔ allB (okXs V) k = false) := Lib.hid ⟨fun h => by omega, fun h => by rw [allB_iff.2 ALL.out] at h; cases h⟩
      clear hlt hk ALL
      go_wp2_with (fail)
      go_ret
      exact ⟨-1, rfl, YES.out, HB.out⟩

set_option maxHeartbeats 2000000 in
theorem ContX_any (q : Option Addr) (n c : Nat) (V : Nat → Int) (hnc : n ≤ c) (hc : c ≤ 9223372036854775807) (w : World) (hq : NmS w 3 q n V) :
    Calls Try.prog 26 #[.slice q n c, .func (.func 27) #[] #[]] w fun e w' => e = .returned (.bool (!allB (okXs V) n)) ∧ Below w.heap.size w w' := by
  have F := Lib.hid (IndexX_any q n c V hnc hc w hq)
  clear hnc hc hq
  go_enter Try.func26, Try.ntmps26
  go_wp2_with (fail)
  go_at_call 43
  refine F.out.mono ?_
  rintro e w1 ⟨z, rfl, hz, hb⟩
  clear F
  have R : Hid (decide (0 ≤ z) = !allB (okXs V) n) := Lib.hid (by
    cases h : allB (okXs V) n with
    | false => rw [h] at hz; simpa using hz
    | true => rw [h] at hz; simpa using hz)
  clear hz
  go_wp2_with (fail)
  go_ret
  exact ⟨by rw [← R.out]; rfl, hb⟩


set_option maxHeartbeats 4000000 in
theorem Check_any (M : Txr) (w : World) (hM : TxAt M w) : Calls Try.prog 11 #[.agg #[.int .i64 M.S, .slice M.q M.n M.c]] w fun e w' => e = .returned (.int .i64 (chkT M.S M.n M.f)) ∧ Below w.heap.size w w' := by
  obtain ⟨S, q, n, c, f⟩ := M
  have HT := Lib.hid hM.t; have HL := Lib.hid hM.l; have HC := Lib.hid hM.m
  dsimp only at *
  have V1 := Lib.hid (@tchk_1 S n f); have V2 := Lib.hid (@tchk_2 S n f); have V3 := Lib.hid (@tchk_3 S n f)
  generalize chkT S n f = z at *
  clear hM
  go_enter Try.func11, Try.ntmps11
  go_upto_region 1 with fail
  obtain ⟨W0, hW⟩ : ∃ W0, W0 = (w.alloc (.cells #[.int .i64 S, .slice q n c] 24)) := ⟨_, rfl⟩
  have hB0 : Below w.heap.size w W0 := hW ▸ (Below.al (Below.refl _ _))
  have HA : Hid (Own w.heap.size [.int .i64 S, .slice q n c] W0) := Lib.hid (hW ▸ (Own.newAt (by simp)))
  rw [← hW]
  clear hW
  obtain ⟨A, eA⟩ : ∃ X, X = w.heap.size := ⟨_, rfl⟩
  rw [← eA] at HA ⊢
  clear eA
  have HB := Lib.hid hB0
  clear hB0
  have A0 := HA.out.at 0 _ rfl; have A1 := HA.out.at 1 _ rfl; have Al := HA.out.lt
  go_wp2_with (fail)
  go_at_call 25
  refine (isSide_any S _).mono ?_
  rintro e w1 ⟨rfl, hw⟩
  subst hw
  obtain ⟨b, eb⟩ : ∃ b, okS S = b := ⟨_, rfl⟩
  rw [eb]
  cases b with
  | false =>
    obtain rfl : z = 5 := V1.out (.inl eb)
    clear V1 V2 V3 eb
    go_wp2_with (fail)
    go_ret
    exact ⟨rfl, HB.out⟩
  | true =>
    have hSS : 0 ≤ S * S ∧ S * S ≤ 256 := by rcases okS_iff.1 eb with rfl | rfl | rfl | rfl | rfl <;> decide
    have wm : IntKind.i64.wrap (S * S) = S * S := IntWalk.i64_in _ (by omega)
    have EB := Lib.hid eb
    clear eb hSS
    by_cases hn : (n : Int) = S * S
    · have hc : ((n : Int) != S * S) = false := by simpa using hn
      have HN := Lib.hid hn
      clear hn
      go_wp2_with (fail)
      go_at_call 26
      refine (ContX_any q n c f HL.out HC.out _ (HT.out.later HB.out)).mono ?_
      rintro e w2 ⟨rfl, hb⟩
      have HB2 := Lib.hid (Below.go HB.out hb)
      clear hb A0 A1 Al
      have ng : Hid (¬(okS S = false ∨ (n : Int) ≠ S * S)) := Lib.hid (by rw [EB.out, HN.out]; simp)
      obtain ⟨b, eb⟩ : ∃ b, allB (okXs f) n = b := ⟨_, rfl⟩
      rw [eb]
      cases b with
      | false =>
        obtain rfl : z = 5 := V2.out ng.out eb
        clear V1 V2 V3 eb
        go_wp2_with (fail)
        go_ret
        exact ⟨rfl, HB2.out⟩
      | true =>
        obtain rfl : z = 0 := V3.out ng.out eb
        clear V1 V2 V3 eb
        go_wp2_with (fail)
        go_ret
        exact ⟨rfl, HB2.out⟩
    · have hc : ((n : Int) != S * S) = true := by simpa using hn
      obtain rfl : z = 5 := V1.out (.inr hn)
      clear V1 V2 V3 hn
      go_wp2_with (fail)
      go_ret
      exact ⟨rfl, HB.out⟩
end Go.Proofs.Ytbhdlpndmbhaiaa

/- UC -/
namespace Go.Proofs.Ytbhdlpndmbhaiaa
set_option linter.unusedVariables false
set_option maxRecDepth 2000
set_option linter.unusedSimpArgs false
open Go.RowKit
theorem okX_no {f : Nat → Int} {i n : Nat} (hi : i < n) (h : ¬((0 ≤ f (i * 3) ∧ f (i * 3) ≤ 255) ∧ (0 ≤ f (i * 3 + 1) ∧ f (i * 3 + 1) ≤ 255) ∧ (0 ≤ f (i * 3 + 2) ∧ f (i * 3 + 2) ≤ 255))) : allB (okXs f) n = false := allB_not hi (decide_eq_false h)
theorem allB_stepX {p : Nat → Bool} {k : Nat} (h : ∀ j, j < k → p j = true) (hk : p k = true) : ∀ j, j < k + 1 → p j = true := fun j hj => (Nat.lt_succ_iff_lt_or_eq.1 hj).elim (h j) (fun e => by rw [e]; exact hk)
set_option maxHeartbeats 16000000 in
theorem RCheck_any (M : Txr) (w : World) (hM : TxAt M w) : Calls Try.prog 12 #[.agg #[.int .i64 M.S, .slice M.q M.n M.c]] w fun e w' => e = .returned (.int .i64 (chkT M.S M.n M.f)) ∧ Below w.heap.size w w' := by
  obtain ⟨S, q, n, c, f⟩ := M
  have HT := Lib.hid hM.t; have HL := Lib.hid hM.l; have HC := Lib.hid hM.m
  dsimp only at *
  have V1 := Lib.hid (@tchk_1 S n f); have V2 := Lib.hid (@tchk_2 S n f); have V3 := Lib.hid (@tchk_3 S n f)
  generalize chkT S n f = z at *
  clear hM
  go_enter Try.func12, Try.ntmps12
  go_upto_region 1 with fail
  obtain ⟨W0, hW⟩ : ∃ W0, W0 = (w.alloc (.cells #[.int .i64 S, .slice q n c] 24)) := ⟨_, rfl⟩
  have hB0 : Below w.heap.size w W0 := hW ▸ (Below.al (Below.refl _ _))
  have HA : Hid (Own w.heap.size [.int .i64 S, .slice q n c] W0) := Lib.hid (hW ▸ (Own.newAt (by simp)))
  rw [← hW]
  clear hW
  obtain ⟨A, eA⟩ : ∃ X, X = w.heap.size := ⟨_, rfl⟩
  rw [← eA] at HA ⊢
  clear eA
  have HB := Lib.hid hB0
  have HT0 := Lib.hid (HT.out.later hB0)
  clear hB0 HT
  have A0 := HA.out.at 0 _ rfl; have A1 := HA.out.at 1 _ rfl; have Al := HA.out.lt
  obtain ⟨b, eb⟩ : ∃ b, okS S = b := ⟨_, rfl⟩
  cases b with
  | false =>
    obtain rfl : z = 5 := V1.out (.inl eb)
    have hs : ¬(S = 1 ∨ S = 2 ∨ S = 4 ∨ S = 8 ∨ S = 16) := of_decide_eq_false eb
    have e1 : (S != 1) = true := by simp; omega
    have e2 : (S != 2) = true := by simp; omega
    have e3 : (S != 4) = true := by simp; omega
    have e4 : (S != 8) = true := by simp; omega
    have e5 : (S != 16) = true := by simp; omega
    clear V1 V2 V3 eb hs HT0
    go_wp2_with (fail)
    go_ret
    exact ⟨rfl, HB.out⟩
  | true =>
    have EB := Lib.hid eb
    have ES := okS_iff.1 eb
    clear eb
    obtain ⟨m, em⟩ : ∃ m, m = S * S := ⟨_, rfl⟩
    by_cases hn : (n : Int) = m
    · have ng : Hid (¬(okS S = false ∨ (n : Int) ≠ S * S)) := Lib.hid (by rw [EB.out, hn, em]; simp)
      have W2 := Lib.hid (V2.out ng.out); have W3 := Lib.hid (V3.out ng.out)
      clear V1 V2 V3 ng EB
      have hm : m ≤ 256 := by rw [em]; rcases ES with rfl | rfl | rfl | rfl | rfl <;> decide
      have N0 := Lib.hid (show n ≤ 256 by omega)
      have hc : ((n : Int) != m) = false := by simpa using hn
      clear hn hm
      have A1_ := Lib.hid A1; have Al_ := Lib.hid Al
      clear HA
      rcases ES with rfl | rfl | rfl | rfl | rfl
      all_goals
       (simp at em; subst em; go_upto_region 3 with fail
        clear A0 A1 Al hc
        go_wp2_with (fail)
        go_loopw [3] (fun iv wr => ∃ (k : Nat), k ≤ n ∧ iv = .int .i64 k ∧ Hid (∀ j, j < k → okXs f j = true) ∧ W0 = wr) (fun iv _ => (n - (intOf iv).toNat))
        case atStart => exact ⟨0, Nat.zero_le _, rfl, Lib.hid (fun j hj => absurd hj (Nat.not_lt_zero j)), rfl⟩
        case round =>
          obtain ⟨k, hk, rfl, ALL, rfl⟩ := hrel
          have A1 := A1_.out; have Al := Al_.out
          by_cases hlt : k < n
          · obtain ⟨D, o, rfl, hD, c0, c1, c2⟩ := HT0.out.at3 hlt
            have hki : (k : Int) < (n : Int) := by omega
            have k0 : (0 : Int) ≤ (k : Int) := by omega
            have wk : IntKind.i64.wrap ((k : Int) + 1) = (k : Int) + 1 := IntWalk.i64_in _ (by have := N0.out; omega)
            obtain ⟨x0, ex0⟩ : ∃ x, f (k * 3) = x := ⟨_, rfl⟩
            obtain ⟨x1, ex1⟩ : ∃ x, f (k * 3 + 1) = x := ⟨_, rfl⟩
            obtain ⟨x2, ex2⟩ : ∃ x, f (k * 3 + 2) = x := ⟨_, rfl⟩
            rw [ex0] at c0
            rw [ex1] at c1
            rw [ex2] at c2
            have HLT := Lib.hid hlt
            clear hk hlt
            go_wp2_with (fail)
            refine wp_loop_rounds 4 ?_
            rw [rounds_succ]
            by_cases g0 : x0 < 0
            · obtain rfl : z = 5 := W2.out (okX_no HLT.out (by rw [ex0, ex1, ex2]; omega))
              clear W2 W3 ALL
              go_wp2_with (fail)
              go_ret
              exact ⟨rfl, HB.out⟩
            have d0 : decide (x0 < 0) = false := decide_eq_false g0
            by_cases k0 : 255 < x0
            · obtain rfl : z = 5 := W2.out (okX_no HLT.out (by rw [ex0, ex1, ex2]; omega))
              clear W2 W3 ALL
              go_wp2_with (fail)
              go_ret
              exact ⟨rfl, HB.out⟩
            have r0 : decide (255 < x0) = false := decide_eq_false k0
            go_wp2_with (fail)
            rw [rounds_succ]
            by_cases g1 : x1 < 0
            · obtain rfl : z = 5 := W2.out (okX_no HLT.out (by rw [ex0, ex1, ex2]; omega))
              clear W2 W3 ALL
              go_wp2_with (fail)
              go_ret
              exact ⟨rfl, HB.out⟩
            have d1 : decide (x1 < 0) = false := decide_eq_false g1
            by_cases k1 : 255 < x1
            · obtain rfl : z = 5 := W2.out (okX_no HLT.out (by rw [ex0, ex1, ex2]; omega))
              clear W2 W3 ALL
              go_wp2_with (fail)
              go_ret
              exact ⟨rfl, HB.out⟩
            have r1 : decide (255 < x1) = false := decide_eq_false k1
            go_wp2_with (fail)
            rw [rounds_succ]
            by_cases g2 : x2 < 0
            · obtain rfl : z = 5 := W2.out (okX_no HLT.out (by rw [ex0, ex1, ex2]; omega))
              clear W2 W3 ALL
              go_wp2_with (fail)
              go_ret
              exact ⟨rfl, HB.out⟩
            have d2 : decide (x2 < 0) = false := decide_eq_false g2
            by_cases k2 : 255 < x2
            · obtain rfl : z = 5 := W2.out (okX_no HLT.out (by rw [ex0, ex1, ex2]; omega))
              clear W2 W3 ALL
              go_wp2_with (fail)
              go_ret
              exact ⟨rfl, HB.out⟩
            have r2 : decide (255 < x2) = false := decide_eq_false k2
            go_wp2_with (fail)
            have OKK : Hid (okXs f k = true) := Lib.hid (okX_iff.2 (by rw [ex0, ex1, ex2]; omega))
            have ALL2 := Lib.hid (allB_stepX ALL.out OKK.out)
            clear ALL ex0 ex1 ex2 g0 g1 g2 k0 k1 k2 d0 d1 d2 r0 r1 r2 c0 c1 c2 OKK
            rw [rounds_succ]
            go_wp2_with (fail)
            go_roundw
            case rel => exact ⟨k + 1, HLT.out, by go_num, ALL2, by first | rfl | trivial⟩
            case measure => (have := HLT.out; simp [intOf]; omega)
          · obtain rfl : k = n := by omega
            obtain rfl : z = 0 := W3.out (allB_iff.2 ALL.out)
            clear hlt hk ALL W2 W3
            go_wp2_with (fail)
            go_ret
            exact ⟨rfl, HB.out⟩)
    · have hc : ((n : Int) != m) = true := by simpa using hn
      obtain rfl : z = 5 := V1.out (.inr (by rw [← em]; exact hn))
      clear V1 V2 V3 hn HT0 EB
      rcases ES with rfl | rfl | rfl | rfl | rfl
      all_goals (simp at em; subst em; go_wp2_with (fail); go_ret; exact ⟨rfl, HB.out⟩)
end Go.Proofs.Ytbhdlpndmbhaiaa

/- UD -/
namespace Go.Proofs.Ytbhdlpndmbhaiaa
set_option linter.unusedVariables false
set_option maxRecDepth 2000
set_option linter.unusedSimpArgs false
open Go.RowKit
attribute [local go_sem ↓] eq3_run neq3_run
/-- a texture cut at 260 texels -/
def fewT (M : Txr) : Txr := { M with n := min M.n 260 }
theorem fewT_at {M : Txr} {w : World} (h : TxAt M w) : TxAt (fewT M) w := ⟨h.t.take (Nat.min_le_left _ _), Nat.le_trans (Nat.min_le_left _ _) h.l, h.m⟩
theorem fewT_n (M : Txr) : (fewT M).n ≤ 260 := Nat.min_le_right _ _
attribute [local go_sem ↓ high] sliced_head
set_option maxHeartbeats 8000000 in
theorem few_any (S : Int) (q : Option Addr) (n c a : Nat) (ea : min (n : Int) 260 = (a : Int)) (lv : n ≤ c) (xv : c ≤ 9223372036854775807) (w : World) :
    Calls Try.prog 8 #[.agg #[.int .i64 S, .slice q n c]] w fun e w' => e = .returned (.agg #[.int .i64 S, .slice q a c]) ∧ Below w.heap.size w w' := by
  have a0 : (0 : Int) ≤ (a : Int) := by omega
  have a1 : (a : Int) ≤ (c : Int) := by omega
  clear lv xv
  go_enter Try.func8, Try.ntmps8
  go_upto_region 1 with fail
  obtain ⟨W0, hW⟩ : ∃ W0, W0 = ((w.alloc (.cells #[.int .i64 S, .slice q n c] 24)).alloc (.cells #[.int .i64 0, .slice none 0 0] 24)) := ⟨_, rfl⟩
  have hB0 : Below w.heap.size w W0 := hW ▸ (Below.al (Below.al (Below.refl _ _)))
  have HA : Hid (Own w.heap.size [.int .i64 S, .slice q n c] W0) := Lib.hid (hW ▸ (Own.newAt (by simp)).alloc)
  have HR : Hid (Own (w.heap.size + 1) [.int .i64 0, .slice none 0 0] W0) := Lib.hid (hW ▸ (Own.newAt (by simp)))
  rw [← hW]
  clear hW
  obtain ⟨R, eR⟩ : ∃ X, X = (w.heap.size + 1) := ⟨_, rfl⟩
  rw [← eR] at HR ⊢
  have Rw : w.heap.size ≤ R := by omega
  obtain ⟨A, eA⟩ : ∃ X, X = w.heap.size := ⟨_, rfl⟩
  rw [← eA] at HA ⊢
  have nAR : A ≠ R := by omega
  have nRA : R ≠ A := by omega
  clear eA eR
  have A0 := HA.out.at 0 _ rfl; have A1 := HA.out.at 1 _ rfl; have Al := HA.out.lt
  have R0 := HR.out.at 0 _ rfl; have Rf0 := HR.out.ok 0 (by simp); have R1 := HR.out.at 1 _ rfl; have Rf1 := HR.out.ok 1 (by simp); have Rl := HR.out.lt
  refine wp_region_still_tail 10 (by kernel_rfl) (by kernel_rfl) ?_; simp only [List.take_succ_cons, List.take_zero, List.drop_succ_cons, List.drop_zero]; change wpStill _ _ (World.drew _) (fun a1 => wpList _ _ _ _ a1 (World.drew _)) _ _; repeat still_step
  refine wpStill_nil ?_
  clear ea a0 a1 A0 A1 Al R0 Rf0 R1 Rf1 Rl
  have HRd := Lib.hid (HR.out.drew)
  refine wpList_store_mid rfl 24 _ _ rfl R 0 ([.int .i64 S, .slice q a c]).toArray rfl rfl HRd.out.free (by kernel_rfl) (by simp [Value.oneCell']) ?_
  have HR5 : Hid (Own R [.int .i64 S, .slice q a c] (W0.drew.setCells R 0 [.int .i64 S, .slice q a c])) := Lib.hid (Own.store HRd.out rfl)
  have HB5 : Below w.heap.size w (W0.drew.setCells R 0 [.int .i64 S, .slice q a c]) := Below.setCells hB0.drew Rw _ _
  change wpList _ _ _ [] _ (W0.drew.setCells R 0 [.int .i64 S, .slice q a c])
  generalize W0.drew.setCells R 0 [.int .i64 S, .slice q a c] = W5 at *
  go_wp2_with (fail)
  have hL := run_loadVar_mid (P := Try.prog) _ R 0 24 [.int .i64 S, .slice q a c] _ HR5.out.cell Try.underlying24 rfl (by kernel_rfl)
  exact bodyPost_ret (v := .agg ([.int .i64 S, .slice q a c] : List Value).toArray) (res_cell Try.results8 rfl hL) rfl ⟨rfl, HB5⟩
theorem few_tex (M : Txr) (w : World) (h : TxAt M w) : Calls Try.prog 8 #[.agg #[.int .i64 M.S, .slice M.q M.n M.c]] w fun e w' => e = .returned (.agg #[.int .i64 (fewT M).S, .slice (fewT M).q (fewT M).n (fewT M).c]) ∧ Below w.heap.size w w' :=
  few_any M.S M.q M.n M.c (fewT M).n (by show min (M.n : Int) 260 = ((min M.n 260 : Nat) : Int); omega) h.l h.m w
set_option maxHeartbeats 8000000 in
theorem Same_yes (M Y : Txr) (w : World) (hM : TxAt M w) (hY : TxAt Y w) (e0 : M.S = Y.S) (e1 : M.n = Y.n) (ev : ∀ j, j < M.n * 3 → M.f j = Y.f j) (bn : M.n ≤ 100000) :
    Calls Try.prog 17 #[.agg #[.int .i64 M.S, .slice M.q M.n M.c], .agg #[.int .i64 Y.S, .slice Y.q Y.n Y.c]] w fun e w' => e = .returned (.bool true) ∧ Below w.heap.size w w' := by
  obtain ⟨S, q, n, c, f⟩ := M
  obtain ⟨S2, q2, n2, c2, f2⟩ := Y
  dsimp only at *
  subst e0 e1
  have HM := Lib.hid hM.t; have HY := Lib.hid hY.t
  dsimp only at *
  have EV := Lib.hid ev
  have BN := Lib.hid bn
  clear hM hY ev bn
  go_enter Try.func17, Try.ntmps17
  go_upto_region 1 with fail
  obtain ⟨W0, hW⟩ : ∃ W0, W0 = ((w.alloc (.cells #[.int .i64 S, .slice q n c] 24)).alloc (.cells #[.int .i64 S, .slice q2 n c2] 24)) := ⟨_, rfl⟩
  have hB0 : Below w.heap.size w W0 := hW ▸ (Below.al (Below.al (Below.refl _ _)))
  have HA : Hid (Own w.heap.size [.int .i64 S, .slice q n c] W0) := Lib.hid (hW ▸ (Own.newAt (by simp)).alloc)
  have HBx : Hid (Own (w.heap.size + 1) [.int .i64 S, .slice q2 n c2] W0) := Lib.hid (hW ▸ (Own.newAt (by simp)))
  rw [← hW]
  clear hW
  obtain ⟨B, eB⟩ : ∃ X, X = (w.heap.size + 1) := ⟨_, rfl⟩
  rw [← eB] at HBx ⊢
  obtain ⟨A, eA⟩ : ∃ X, X = w.heap.size := ⟨_, rfl⟩
  rw [← eA] at HA ⊢
  have nAB : A ≠ B := by omega
  have nBA : B ≠ A := by omega
  clear eA eB
  have HB := Lib.hid hB0
  clear hB0
  have A0 := HA.out.at 0 _ rfl; have A1 := HA.out.at 1 _ rfl; have Al := HA.out.lt
  have B0 := HBx.out.at 0 _ rfl; have B1 := HBx.out.at 1 _ rfl; have Bl := HBx.out.lt
  go_upto_region 3 with fail
  clear A0 A1 Al B0 B1 Bl
  go_wp2_with (fail)
  go_loopw [5] (fun iv wr => ∃ (k : Nat), k ≤ n ∧ iv = .int .i64 k ∧ Hid (Own A [.int .i64 S, .slice q n c] wr) ∧ Hid (Own B [.int .i64 S, .slice q2 n c2] wr) ∧ Hid (Below w.heap.size w wr)) (fun iv _ => (n - (intOf iv).toNat))
  case atStart => exact ⟨0, Nat.zero_le _, rfl, HA, HBx, HB⟩
  case round =>
    clear HA HBx HB
    obtain ⟨k, hk, rfl, HA, HBx, HB⟩ := hrel
    by_cases hlt : k < n
    · obtain ⟨D, o, eq1, hD, c0, c1, c2_⟩ := (HM.out.later HB.out).at3 hlt
      obtain ⟨D2, o2, eq2, hD2, d0, d1, d2⟩ := (HY.out.later HB.out).at3 hlt
      have hki : (k : Int) < (n : Int) := by omega
      have k0 : (0 : Int) ≤ (k : Int) := by omega
      have wk : IntKind.i64.wrap ((k : Int) + 1) = (k : Int) + 1 := IntWalk.i64_in _ (by have := BN.out; omega)
      subst eq1 eq2
      rw [← EV.out (k * 3) (by omega)] at d0
      rw [← EV.out (k * 3 + 1) (by omega)] at d1
      rw [← EV.out (k * 3 + 2) (by omega)] at d2
      generalize f (k * 3) = x0 at c0 d0
      generalize f (k * 3 + 1) = x1 at c1 d1
      generalize f (k * 3 + 2) = x2 at c2_ d2
      have HLT := Lib.hid hlt
      clear hk hlt
      have A1 := HA.out.at 1 _ rfl; have Al := HA.out.lt
      have B1 := HBx.out.at 1 _ rfl; have Bl := HBx.out.lt
      have es := eq3B_self x0 x1 x2
      go_wp2_with (fail)
      go_quiet (fail)
      have hBd : Below wr.heap.size wr (wr.drewN nq) := below_drewN (Below.refl _ _) _
      have HA_ := Lib.hid (HA.out.later hBd); have HBx_ := Lib.hid (HBx.out.later hBd); have HB_ := Lib.hid (Below.go HB.out hBd)
      clear HA HBx HB hBd hD hD2 A1 Al B1 Bl c0 d0 c1 d1 c2_ d2
      generalize wr.drewN nq = z1 at *
      go_wp2_with (fail)
      go_roundw
      case rel => (first | exact ⟨k + 1, HLT.out, by go_num, HA_, HBx_, HB_⟩ | ((repeat apply Exists.intro); exact ⟨⟨k + 1, HLT.out, by go_num, HA_, HBx_, HB_⟩, rfl⟩))
      case measure => (have := HLT.out; simp [intOf]; omega)
    · obtain rfl : n = k := by omega
      clear hlt hk
      have A1 := HA.out.at 1 _ rfl; have Al := HA.out.lt
      go_wp2_with (fail)
      go_ret
      exact ⟨rfl, HB.out⟩
end Go.Proofs.Ytbhdlpndmbhaiaa

/- UE -/
namespace Go.Proofs.Ytbhdlpndmbhaiaa
set_option linter.unusedVariables false
set_option maxRecDepth 2000
set_option linter.unusedSimpArgs false
open Go.RowKit
attribute [local go_sem ↓] ix3_0 ix3_1 ix3_2
/-- the bytes of a texture -/
def encT (S : Int) (f : Nat → Int) (j : Nat) : Int := if j = 0 then S else f (j - 1)
def encTL (z : Int) (n : Nat) : Nat := if z = 0 then 1 + n * 3 else 0
theorem RowR.congr {w : World} {v : Value} {n : Nat} {f g : Nat → Int} (h : RowR w v n f) (e : ∀ j, j < n → f j = g j) : RowR w v n g := by
  obtain ⟨q, c, h1, h2, h3, h4⟩ := h
  refine ⟨q, c, h1, h2, h3, ?_⟩
  rcases h4 with h4 | ⟨b, off, h5, h6⟩
  · exact .inl h4
  · refine .inr ⟨b, off, h5, ?_⟩
    rw [← nums_congr .u8 e]
    exact h6
theorem enc_out {S : Int} {n : Nat} {f : Nat → Int} (h : GoodT S n f) (j : Nat) (hj : j < 1 + n * 3) : outF (outF (fun _ => 0) 0 1 (fun _ => S)) 1 1 f j = encT S f j := by
  have hs : 0 ≤ S ∧ S ≤ 255 := by rcases h.s with e | e | e | e | e <;> omega
  unfold encT
  by_cases h0 : j = 0
  · subst h0
    rw [if_pos rfl, outF_head _ _ _ _ (by omega)]
    unfold outF dg
    rw [if_neg (by omega), pw_zero]
    show S / 1 % 256 = S
    omega
  · rw [if_neg h0]
    unfold outF dg
    rw [if_neg (by omega)]
    have h1 := h.v (j - 1) (by omega)
    rw [Nat.div_one, Nat.mod_one, pw_zero]
    omega
set_option maxHeartbeats 16000000 in
theorem Encode_any (M : Txr) (w : World) (hM : TxAt M w) : Calls Try.prog 9 #[.agg #[.int .i64 M.S, .slice M.q M.n M.c]] w fun e w' => (∃ v, e = .returned (.tuple #[v, .int .i64 (chkT M.S M.n M.f)]) ∧ RowR w' v (encTL (chkT M.S M.n M.f) M.n) (encT M.S M.f)) ∧ Below w.heap.size w w' := by
  have HM := Lib.hid hM
  have CK := Lib.hid (Check_any M)
  have GD := Lib.hid (@tchk_good M.S M.n M.f)
  obtain ⟨S, q, n, c, f⟩ := M
  dsimp only at *
  generalize chkT S n f = z at *
  clear hM
  by_cases hz : z = 0
  · subst hz
    have GO := GD.out rfl
    clear GD
    rw [show encTL 0 n = 1 + n * 3 from rfl]
    have EQ : Hid (∀ w v, RowR w v (1 + n * 3) (outF (outF (fun _ => 0) 0 1 (fun _ => S)) 1 1 f) → RowR w v (1 + n * 3) (encT S f)) := Lib.hid (fun w v h => h.congr (fun j hj => enc_out GO j hj))
    obtain ⟨s, eS, hs, hn⟩ := GO.cnt
    have gv := GO.v
    have n256 : n ≤ 256 := by rcases hs with e | e | e | e | e <;> subst e <;> omega
    have s16 : 0 ≤ S ∧ S ≤ 16 := by omega
    have rS : IntKind.u64.wrap S = S := IntWalk.u64_in _ (by omega)
    have C1 := Lib.hid (fun p w hp => Put_ok none p 0 0 1 1 1 1 (fun _ => 0) (fun _ => S) rfl (by decide) (by decide) (fun k hk => by omega) (fun k hk => fit_1 (by omega)) (by decide) (by decide) (by decide) (by decide) (by decide) (by decide) w (.inl rfl) hp)
    have C2 := Lib.hid (fun q c hc1 hc2 p c2 h1 h2 w hq hp => Put_ok q p 1 c (n * 3) c2 1 (1 + n * 3) (outF (fun _ => 0) 0 1 (fun _ => S)) f (by omega) (by decide) (by decide) (fun k hk => by have := gv k hk; omega) (fun k hk => fit_1 (by have := gv k hk; omega)) hc1 hc2 h1 h2 (by omega) (by omega) w hq hp)
    have BU := Lib.hid (fun j (hj : j < n * 3) => show IntKind.u64.wrap (f j) = f j from IntWalk.u64_in _ (by have := gv j hj; omega))
    have HV := Lib.hid HM.out.t
    dsimp only at HV
    have LX := Lib.hid n256
    generalize outF (outF (fun _ => 0) 0 1 (fun _ => S)) 1 1 f = E2 at *
    generalize outF (fun _ => 0) 0 1 (fun _ => S) = E1 at *
    have CL : Hid ([Value.int .u64 S] = nums .u64 (fun _ => S) 1) := Lib.hid rfl
    generalize encT S f = EE at *
    clear eS hs hn gv n256 s16 GO
    go_enter Try.func9, Try.ntmps9
    go_upto_region 1 with fail
    obtain ⟨W0, hW⟩ : ∃ W0, W0 = (w.alloc (.cells #[.int .i64 S, .slice q n c] 24)) := ⟨_, rfl⟩
    have hB0 : Below w.heap.size w W0 := hW ▸ (Below.al (Below.refl _ _))
    have HA : Hid (Own w.heap.size [.int .i64 S, .slice q n c] W0) := Lib.hid (hW ▸ (Own.newAt (by simp)))
    rw [← hW]
    clear hW
    obtain ⟨A, eA⟩ : ∃ X, X = w.heap.size := ⟨_, rfl⟩
    rw [← eA] at HA ⊢
    clear eA
    have HM0 := Lib.hid (HM.out.later hB0)
    have A0 := HA.out.at 0 _ rfl; have A1 := HA.out.at 1 _ rfl; have Al := HA.out.lt
    go_wp2_with (fail)
    go_at_call 11
    refine (CK.out _ HM0.out).mono ?_
    rintro e w1 ⟨rfl, hb⟩
    have HA1 := Lib.hid (HA.out.later hb)
    have HB1 := Lib.hid (Below.go hB0 hb)
    have HV1 := Lib.hid (HV.out.later HB1.out)
    clear hb hB0 HM HM0 HA CK A0 A1 Al HV
    obtain ⟨u0, ui, uz0, uz1, uz2⟩ := infoQ_parts
    have A1 := HA1.out.at 1 _ rfl; have Al := HA1.out.lt
    go_wp2_with (fail)
    clear A1 Al
    go_loopw [5, 20] (fun v iv wr => ∃ (k t : Nat) (p3 : Option Addr) (c3 : Nat), k ≤ n ∧ Hid (t = k * 3) ∧ v = .slice p3 t c3 ∧ iv = .int .i64 k ∧ Hid (wr.ownsRow w1.heap.size 57 1 (.slice p3 t c3) t (nums .u64 f t)) ∧ Hid (Below w1.heap.size w1 wr)) (fun _ iv _ => (n - (intOf iv).toNat))
    case atStart => exact ⟨0, 0, none, 0, Nat.zero_le _, Lib.hid (Nat.zero_mul _).symm, rfl, rfl, Lib.hid (World.ownsRow_nil _ _ _ _), Lib.hid (Below.refl _ _)⟩
    case round =>
      obtain ⟨k, t, p3, c3, hk, HT, rfl, rfl, ROW, HB⟩ := hrel
      by_cases hlt : k < n
      · obtain ⟨D, o, rfl, hD, c0, c1, c2⟩ := (HV1.out.later HB.out).at3 hlt
        have hki : (k : Int) < (n : Int) := by omega
        have k0 : (0 : Int) ≤ (k : Int) := by omega
        have wk : IntKind.i64.wrap ((k : Int) + 1) = (k : Int) + 1 := IntWalk.i64_in _ (by have := LX.out; omega)
        have HLT := Lib.hid hlt
        obtain ⟨x0, ex0⟩ : ∃ x, f (k * 3) = x := ⟨_, rfl⟩
        rw [ex0] at c0
        have wx0 : IntKind.u64.wrap x0 = x0 := by rw [← ex0]; exact BU.out _ (by omega)
        obtain ⟨x1, ex1⟩ : ∃ x, f (k * 3 + 1) = x := ⟨_, rfl⟩
        rw [ex1] at c1
        have wx1 : IntKind.u64.wrap x1 = x1 := by rw [← ex1]; exact BU.out _ (by omega)
        obtain ⟨x2, ex2⟩ : ∃ x, f (k * 3 + 2) = x := ⟨_, rfl⟩
        rw [ex2] at c2
        have wx2 : IntKind.u64.wrap x2 = x2 := by rw [← ex2]; exact BU.out _ (by omega)
        have XS0 : Hid (nums .u64 f (t + 0) ++ [.int .u64 x0] = nums .u64 f (t + 0 + 1)) := Lib.hid (by
          refine nums_append .u64 f (fun _ => x0) (t + 0) 1 (fun i hi => ?_)
          obtain rfl : i = 0 := by omega
          rw [HT.out]
          exact ex0)
        have XS1 : Hid (nums .u64 f (t + 1) ++ [.int .u64 x1] = nums .u64 f (t + 1 + 1)) := Lib.hid (by
          refine nums_append .u64 f (fun _ => x1) (t + 1) 1 (fun i hi => ?_)
          obtain rfl : i = 0 := by omega
          rw [HT.out]
          exact ex1)
        have XS2 : Hid (nums .u64 f (t + 2) ++ [.int .u64 x2] = nums .u64 f (t + 2 + 1)) := Lib.hid (by
          refine nums_append .u64 f (fun _ => x2) (t + 2) 1 (fun i hi => ?_)
          obtain rfl : i = 0 := by omega
          rw [HT.out]
          exact ex2)
        have HT2 : Hid (t + 0 + 1 + 1 + 1 = (k + 1) * 3) := Lib.hid (by have := HT.out; omega)
        have T800 : t ≤ 800 := by rw [HT.out]; have := LX.out; omega
        have N63 := Lib.hid (show t + 3 ≤ maxLen by unfold maxLen; omega)
        have NBY := Lib.hid (show (t + 3) * 8 ≤ 140737488355328 by omega)
        clear hk hlt T800 ex0 ex1 ex2
        go_upto_region 8 with fail
        clear hD c0 c1 c2
        obtain ⟨y0, hW⟩ : ∃ y0, y0 = (wr.alloc (.cells #[.int .i64 x0, .int .i64 x1, .int .i64 x2] 50)) := ⟨_, rfl⟩
        have hBx : Below wr.heap.size wr y0 := hW ▸ (Below.al (Below.refl _ _))
        have HQ : Hid (Own wr.heap.size ([.int .i64 x0, .int .i64 x1, .int .i64 x2]) y0) := Lib.hid (hW ▸ (show Own wr.heap.size ([.int .i64 x0, .int .i64 x1, .int .i64 x2]) (wr.alloc (.cells #[.int .i64 x0, .int .i64 x1, .int .i64 x2] 50)) from Own.newAt (by simp)))
        rw [← hW]
        clear hW
        obtain ⟨Q, eQ⟩ : ∃ X, X = wr.heap.size := ⟨_, rfl⟩
        rw [← eQ] at HQ ⊢
        clear eQ
        have ROW0 := Lib.hid (row_later ROW.out hBx)
        have HB0 := Lib.hid (Below.go HB.out hBx)
        clear hBx ROW HB
        have Q0 := HQ.out.at 0 _ rfl; have Q1 := HQ.out.at 1 _ rfl; have Q2 := HQ.out.at 2 _ rfl; have Ql := HQ.out.lt
        rw [show (Value.slice p3 t c3) = .slice p3 (t + 0) c3 from rfl]
        have ROW0_ : Hid (y0.ownsRow w1.heap.size 57 1 (.slice p3 (t + 0) c3) (t + 0) (nums .u64 f (t + 0))) := ROW0
        clear ROW0
        have ROW0 := ROW0_
        clear ROW0_
        go_wp2_with (fail)
        clear Q0 Q1 Q2 Ql
        refine wp_loop_rounds 4 ?_
        rw [rounds_succ]
        have HS0 : Hid (w1.heap.size ≤ (y0.alloc (.cells #[.int .u64 x0] 57)).heap.size) := Lib.hid (Below.al HB0.out).size
        go_wp2_with (at_builtin; refine wpList_append_own _ rfl _ _ 56 rfl w1.heap.size 57 u0 (.int .u64 0) 1 8 Try.underlying56 ui uz0 uz1 uz2 rfl (by decide) _ (t + 0) _ rfl (row_later ROW0.out (Below.al (Below.refl _ _))) ⟨y0.heap.size, 0, none⟩ 1 1 [.int .u64 x0] rfl rfl (Own.newAt (by rfl)).news (by intro v hv; simp at hv; subst hv; rfl) (by have := N63.out; omega) (by have := NBY.out; omega) HS0.out ?_; intro v' y1 hrow hgr _; obtain ⟨p0_, c0_, rfl, _⟩ := row_form hrow; have HB1 := Lib.hid ((Below.al HB0.out).grown hgr (Below.al HB0.out).size fun q hq => row_ge ROW0.out q hq); have ROW1 := Lib.hid (XS0.out ▸ hrow); clear hrow hgr)
        clear ROW0 HB0 HS0
        rw [rounds_succ]
        have HS1 : Hid (w1.heap.size ≤ (y1.alloc (.cells #[.int .u64 x1] 57)).heap.size) := Lib.hid (Below.al HB1.out).size
        go_wp2_with (at_builtin; refine wpList_append_own _ rfl _ _ 56 rfl w1.heap.size 57 u0 (.int .u64 0) 1 8 Try.underlying56 ui uz0 uz1 uz2 rfl (by decide) _ (t + 0 + 1) _ rfl (row_later ROW1.out (Below.al (Below.refl _ _))) ⟨y1.heap.size, 0, none⟩ 1 1 [.int .u64 x1] rfl rfl (Own.newAt (by rfl)).news (by intro v hv; simp at hv; subst hv; rfl) (by have := N63.out; omega) (by have := NBY.out; omega) HS1.out ?_; intro v' y2 hrow hgr _; obtain ⟨p1_, c1_, rfl, _⟩ := row_form hrow; have HB2 := Lib.hid ((Below.al HB1.out).grown hgr (Below.al HB1.out).size fun q hq => row_ge ROW1.out q hq); have ROW2 := Lib.hid (XS1.out ▸ hrow); clear hrow hgr)
        clear ROW1 HB1 HS1
        rw [rounds_succ]
        have HS2 : Hid (w1.heap.size ≤ (y2.alloc (.cells #[.int .u64 x2] 57)).heap.size) := Lib.hid (Below.al HB2.out).size
        go_wp2_with (at_builtin; refine wpList_append_own _ rfl _ _ 56 rfl w1.heap.size 57 u0 (.int .u64 0) 1 8 Try.underlying56 ui uz0 uz1 uz2 rfl (by decide) _ (t + 0 + 1 + 1) _ rfl (row_later ROW2.out (Below.al (Below.refl _ _))) ⟨y2.heap.size, 0, none⟩ 1 1 [.int .u64 x2] rfl rfl (Own.newAt (by rfl)).news (by intro v hv; simp at hv; subst hv; rfl) (by have := N63.out; omega) (by have := NBY.out; omega) HS2.out ?_; intro v' y3 hrow hgr _; obtain ⟨p2_, c2_, rfl, _⟩ := row_form hrow; have HB3 := Lib.hid ((Below.al HB2.out).grown hgr (Below.al HB2.out).size fun q hq => row_ge ROW2.out q hq); have ROW3 := Lib.hid (XS2.out ▸ hrow); clear hrow hgr)
        clear ROW2 HB2 HS2
        rw [rounds_succ]
        go_wp2_with (fail)
        go_roundw
        case rel => (first | exact ⟨k + 1, t + 0 + 1 + 1 + 1, _, _, HLT.out, HT2, rfl, by go_num, ROW3, HB3⟩ | ((repeat apply Exists.intro); exact ⟨⟨k + 1, t + 0 + 1 + 1 + 1, _, _, HLT.out, HT2, rfl, by go_num, ROW3, HB3⟩, rfl⟩))
        case measure => (have := HLT.out; simp [intOf]; omega)
      · obtain rfl : k = n := by omega
        clear hlt hk
        obtain ⟨w2, rfl⟩ : ∃ x, x = wr := ⟨_, rfl⟩
        have B1 := HB.out
        have NM1 := Lib.hid (nm_row ROW.out).2; have cap := row_cap_ ROW.out
        have CP1 := Lib.hid cap
        have HA2 := Lib.hid (HA1.out.later B1)
        have HB2 := Lib.hid (Below.go HB1.out B1)
        clear HA1 HB1 HB ROW cap B1 HV1 BU
        have A0 := HA2.out.at 0 _ rfl; have Al := HA2.out.lt
        have C2_ := C2.out
        rw [← HT.out] at C2_
        have C2t := Lib.hid C2_
        clear C2 C2_
        go_wp2_with (fail)
        go_at_call 24
        refine (C1.out _ _ (nm_new CL.out)).mono ?_
        rintro e w5 ⟨⟨v1, rfl, q1, a1, rfl, hn, hx, hby⟩, hb0⟩
        have hb := Below.go (Below.al (o := .cells #[.int .u64 S] 57) (Below.refl w2.heap.size w2)) hb0
        have BY1 := Lib.hid hby
        have X1 := Lib.hid (And.intro hn hx)
        have NM2 := Lib.hid (NM1.out.later hb)
        have HB3 := Lib.hid (Below.go HB2.out hb)
        clear hn hx hby hb hb0 HB2 A0 Al C1 NM1
        go_wp2_with (fail)
        go_at_call 24
        refine (C2t.out q1 a1 X1.out.1 X1.out.2 _ _ CP1.out.1 CP1.out.2 _ BY1.out NM2.out).mono ?_
        rintro e w6 ⟨⟨v2, rfl, hr⟩, hb⟩
        have RW := Lib.hid (EQ.out _ _ (HT.out ▸ hr))
        have HB4 := Lib.hid (Below.go HB3.out hb)
        clear hr hb HB3 NM2 BY1 C2t
        go_wp2_with (fail)
        exact bodyPost_ret (v := .tuple #[v2, .int .i64 0]) (by simp [results, Try.results9, go_sem]) rfl ⟨⟨_, rfl, RW.out⟩, HB4.out⟩
  · have hd : (z != 0) = true := by simpa using hz
    rw [show encTL z n = 0 from if_neg hz]
    clear GD
    go_enter Try.func9, Try.ntmps9
    go_upto_region 1 with fail
    obtain ⟨W0, hW⟩ : ∃ W0, W0 = (w.alloc (.cells #[.int .i64 S, .slice q n c] 24)) := ⟨_, rfl⟩
    have hB0 : Below w.heap.size w W0 := hW ▸ (Below.al (Below.refl _ _))
    have HA : Hid (Own w.heap.size [.int .i64 S, .slice q n c] W0) := Lib.hid (hW ▸ (Own.newAt (by simp)))
    rw [← hW]
    clear hW
    obtain ⟨A, eA⟩ : ∃ X, X = w.heap.size := ⟨_, rfl⟩
    rw [← eA] at HA ⊢
    clear eA
    have HM0 := Lib.hid (HM.out.later hB0)
    have A0 := HA.out.at 0 _ rfl; have A1 := HA.out.at 1 _ rfl; have Al := HA.out.lt
    go_wp2_with (fail)
    go_at_call 11
    refine (CK.out _ HM0.out).mono ?_
    rintro e w1 ⟨rfl, hb⟩
    have HB1 := Lib.hid (Below.go hB0 hb)
    clear hb hB0 HM HM0 HA CK A0 A1 Al
    go_wp2_with (fail)
    exact bodyPost_ret (v := .tuple #[.slice none 0 0, .int .i64 z]) (by simp [results, Try.results9, go_sem]) rfl ⟨⟨_, rfl, none, 0, rfl, Nat.le_refl _, by decide, .inl rfl⟩, HB1.out⟩
end Go.Proofs.Ytbhdlpndmbhaiaa

/- UF -/
namespace Go.Proofs.Ytbhdlpndmbhaiaa
set_option linter.unusedVariables false
set_option maxRecDepth 2000
set_option linter.unusedSimpArgs false
open Go.RowKit
set_option maxHeartbeats 16000000 in
theorem REncode_any (M : Txr) (w : World) (hM : TxAt M w) : Calls Try.prog 10 #[.agg #[.int .i64 M.S, .slice M.q M.n M.c]] w fun e w' => (∃ v, e = .returned (.tuple #[v, .int .i64 (chkT M.S M.n M.f)]) ∧ RowR w' v (encTL (chkT M.S M.n M.f) M.n) (encT M.S M.f)) ∧ Below w.heap.size w w' := by
  have HM := Lib.hid hM
  have CK := Lib.hid (RCheck_any M)
  have GD := Lib.hid (@tchk_good M.S M.n M.f)
  obtain ⟨S, q, n, c, f⟩ := M
  dsimp only at *
  generalize chkT S n f = z at *
  clear hM
  by_cases hz : z = 0
  · subst hz
    have GO := GD.out rfl
    clear GD
    rw [show encTL 0 n = 1 + n * 3 from rfl]
    obtain ⟨s, eS, hs, hn⟩ := GO.cnt
    have gv := GO.v
    have n256 : n ≤ 256 := by rcases hs with e | e | e | e | e <;> subst e <;> omega
    have s16 : 0 ≤ S ∧ S ≤ 16 := by omega
    have rS : IntKind.u8.wrap S = S := IntWalk.u8_in _ (by omega)
    have BU := Lib.hid (fun j (hj : j < n * 3) => show IntKind.u8.wrap (f j) = f j from IntWalk.u8_in _ (by have := gv j hj; omega))
    have HV := Lib.hid HM.out.t
    dsimp only at HV
    have LX := Lib.hid n256
    have CL : Hid ([Value.int .u8 S] = nums .u8 (encT S f) 1) := Lib.hid rfl
    have CE : Hid (∀ t, encT S f (t + 1) = f t) := Lib.hid (fun t => rfl)
    generalize encT S f = EE at *
    clear eS hs hn gv n256 s16 GO
    go_enter Try.func10, Try.ntmps10
    go_upto_region 1 with fail
    obtain ⟨W0, hW⟩ : ∃ W0, W0 = (w.alloc (.cells #[.int .i64 S, .slice q n c] 24)) := ⟨_, rfl⟩
    have hB0 : Below w.heap.size w W0 := hW ▸ (Below.al (Below.refl _ _))
    have HA : Hid (Own w.heap.size [.int .i64 S, .slice q n c] W0) := Lib.hid (hW ▸ (Own.newAt (by simp)))
    rw [← hW]
    clear hW
    obtain ⟨A, eA⟩ : ∃ X, X = w.heap.size := ⟨_, rfl⟩
    rw [← eA] at HA ⊢
    clear eA
    have HM0 := Lib.hid (HM.out.later hB0)
    have A0 := HA.out.at 0 _ rfl; have A1 := HA.out.at 1 _ rfl; have Al := HA.out.lt
    go_wp2_with (fail)
    go_at_call 12
    refine (CK.out _ HM0.out).mono ?_
    rintro e w1 ⟨rfl, hb⟩
    have HA1 := Lib.hid (HA.out.later hb)
    have HB1 := Lib.hid (Below.go hB0 hb)
    have HV1 := Lib.hid (HV.out.later HB1.out)
    clear hb hB0 HM HM0 HA CK A0 A1 Al HV
    obtain ⟨i0, hi, hz0, hz1, hz2⟩ := infoB_parts
    have A0 := HA1.out.at 0 _ rfl; have Al := HA1.out.lt
    go_wp2_with (fail)
    clear A0 Al
    go_loopw [5, 6] (fun v iv wr => ∃ (k t : Nat) (p3 : Option Addr) (c3 : Nat), k ≤ n ∧ Hid (t = k * 3) ∧ v = .slice p3 (t + 1) c3 ∧ iv = .int .i64 k ∧ Hid (wr.ownsRow w1.heap.size 5 1 (.slice p3 (t + 1) c3) (t + 1) (nums .u8 EE (t + 1))) ∧ Hid (Below w1.heap.size w1 wr)) (fun _ iv _ => (n - (intOf iv).toNat))
    case atStart => exact ⟨0, 0, _, _, Nat.zero_le _, Lib.hid (Nat.zero_mul _).symm, rfl, rfl, Lib.hid (by rw [← CL.out]; exact World.ownsRow_lit w1 #[.int .u8 S] 1 (Nat.le_refl _) (by decide) rfl), Lib.hid (Below.al (Below.refl _ _))⟩
    case round =>
      obtain ⟨k, t, p3, c3, hk, HT, rfl, rfl, ROW, HB⟩ := hrel
      by_cases hlt : k < n
      · have hki : (k : Int) < (n : Int) := by omega
        have k0 : (0 : Int) ≤ (k : Int) := by omega
        have wk : IntKind.i64.wrap ((k : Int) + 1) = (k : Int) + 1 := IntWalk.i64_in _ (by have := LX.out; omega)
        have HLT := Lib.hid hlt
        obtain ⟨x0, ex0⟩ : ∃ x, f (k * 3) = x := ⟨_, rfl⟩
        have wx0 : IntKind.u8.wrap x0 = x0 := by rw [← ex0]; exact BU.out _ (by omega)
        obtain ⟨x1, ex1⟩ : ∃ x, f (k * 3 + 1) = x := ⟨_, rfl⟩
        have wx1 : IntKind.u8.wrap x1 = x1 := by rw [← ex1]; exact BU.out _ (by omega)
        obtain ⟨x2, ex2⟩ : ∃ x, f (k * 3 + 2) = x := ⟨_, rfl⟩
        have wx2 : IntKind.u8.wrap x2 = x2 := by rw [← ex2]; exact BU.out _ (by omega)
        have XS0 : Hid (nums .u8 EE (t + 1 + 0) ++ [.int .u8 x0] = nums .u8 EE (t + 1 + 0 + 1)) := Lib.hid (by
          refine nums_append .u8 EE (fun _ => x0) (t + 1 + 0) 1 (fun i hi => ?_)
          obtain rfl : i = 0 := by omega
          rw [show t + 1 + 0 + 0 = t + 0 + 1 by omega, CE.out, HT.out]
          exact ex0)
        have XS1 : Hid (nums .u8 EE (t + 1 + 1) ++ [.int .u8 x1] = nums .u8 EE (t + 1 + 1 + 1)) := Lib.hid (by
          refine nums_append .u8 EE (fun _ => x1) (t + 1 + 1) 1 (fun i hi => ?_)
          obtain rfl : i = 0 := by omega
          rw [show t + 1 + 1 + 0 = t + 1 + 1 by omega, CE.out, HT.out]
          exact ex1)
        have XS2 : Hid (nums .u8 EE (t + 1 + 2) ++ [.int .u8 x2] = nums .u8 EE (t + 1 + 2 + 1)) := Lib.hid (by
          refine nums_append .u8 EE (fun _ => x2) (t + 1 + 2) 1 (fun i hi => ?_)
          obtain rfl : i = 0 := by omega
          rw [show t + 1 + 2 + 0 = t + 2 + 1 by omega, CE.out, HT.out]
          exact ex2)
        obtain ⟨D, o, rfl, HH⟩ := HV1.out.resolve_left (by omega)
        have HD0 : Hid (∀ w', Below w1.heap.size w1 w' → D < w'.heap.size ∧ w'.cell? ⟨D, o + k * 3, none⟩ = some (.int .i64 x0) ∧ w'.cell? ⟨D, o + k * 3 + 1, none⟩ = some (.int .i64 x1) ∧ w'.cell? ⟨D, o + k * 3 + 2, none⟩ = some (.int .i64 x2)) := Lib.hid (fun w' hb => by
          obtain ⟨D', o', e', h'⟩ := (NmS.at3 (.inr ⟨D, o, rfl, HH.later hb⟩) hlt)
          obtain ⟨rfl, rfl⟩ : D = D' ∧ o = o' := by simpa using e'
          rw [ex0, ex1, ex2] at h'
          exact h')
        clear HH
        have HT2 : Hid (t + 1 + 1 + 1 + 1 = (k + 1) * 3 + 1) := Lib.hid (by have := HT.out; omega)
        have T800 : t ≤ 800 := by rw [HT.out]; have := LX.out; omega
        have N63 := Lib.hid (show t + 4 ≤ maxLen by unfold maxLen; omega)
        have NBY := Lib.hid (show (t + 4) * 1 ≤ 140737488355328 by omega)
        clear hk hlt T800 ex0 ex1 ex2
        have A1 := (HA1.out.later HB.out).at 1 _ rfl; have Al := (HA1.out.later HB.out).lt
        go_wp2_with (fail)
        clear A1 Al
        obtain ⟨y0, rfl⟩ : ∃ x, x = wr := ⟨_, rfl⟩
        have ROW0 := ROW; have HB0 := HB
        clear ROW HB
        refine wp_loop_rounds 4 ?_
        rw [rounds_succ]
        have HS0 : Hid (w1.heap.size ≤ (y0.alloc (.cells #[.int .u8 x0] 5)).heap.size) := Lib.hid (Below.al HB0.out).size
        have A1 := (HA1.out.later HB0.out).at 1 _ rfl; have Al := (HA1.out.later HB0.out).lt
        obtain ⟨hD0, b0, b1, b2⟩ := HD0.out _ HB0.out
        go_wp2_with (at_builtin; refine wpList_append_own _ rfl _ _ 26 rfl w1.heap.size 5 i0 (.int .u8 0) 1 1 Try.underlying26 hi hz0 hz1 hz2 rfl (by decide) _ (t + 1) _ rfl (row_later ROW0.out (Below.al (Below.refl _ _))) ⟨y0.heap.size, 0, none⟩ 1 1 [.int .u8 x0] rfl rfl (Own.newAt (by rfl)).news (by intro v hv; simp at hv; subst hv; rfl) (by have := N63.out; omega) (by have := NBY.out; omega) HS0.out ?_; intro v' y1 hrow hgr _; obtain ⟨p0_, c0_, rfl, _⟩ := row_form hrow; have HB1 := Lib.hid ((Below.al HB0.out).grown hgr (Below.al HB0.out).size fun q hq => row_ge ROW0.out q hq); have ROW1 := Lib.hid (XS0.out ▸ hrow); clear hrow hgr)
        clear ROW0 HB0 HS0 A1 Al hD0 b0 b1 b2
        rw [rounds_succ]
        have HS1 : Hid (w1.heap.size ≤ (y1.alloc (.cells #[.int .u8 x1] 5)).heap.size) := Lib.hid (Below.al HB1.out).size
        have A1 := (HA1.out.later HB1.out).at 1 _ rfl; have Al := (HA1.out.later HB1.out).lt
        obtain ⟨hD1, b0, b1, b2⟩ := HD0.out _ HB1.out
        go_wp2_with (at_builtin; refine wpList_append_own _ rfl _ _ 26 rfl w1.heap.size 5 i0 (.int .u8 0) 1 1 Try.underlying26 hi hz0 hz1 hz2 rfl (by decide) _ (t + 1 + 1) _ rfl (row_later ROW1.out (Below.al (Below.refl _ _))) ⟨y1.heap.size, 0, none⟩ 1 1 [.int .u8 x1] rfl rfl (Own.newAt (by rfl)).news (by intro v hv; simp at hv; subst hv; rfl) (by have := N63.out; omega) (by have := NBY.out; omega) HS1.out ?_; intro v' y2 hrow hgr _; obtain ⟨p1_, c1_, rfl, _⟩ := row_form hrow; have HB2 := Lib.hid ((Below.al HB1.out).grown hgr (Below.al HB1.out).size fun q hq => row_ge ROW1.out q hq); have ROW2 := Lib.hid (XS1.out ▸ hrow); clear hrow hgr)
        clear ROW1 HB1 HS1 A1 Al hD1 b0 b1 b2
        rw [rounds_succ]
        have HS2 : Hid (w1.heap.size ≤ (y2.alloc (.cells #[.int .u8 x2] 5)).heap.size) := Lib.hid (Below.al HB2.out).size
        have A1 := (HA1.out.later HB2.out).at 1 _ rfl; have Al := (HA1.out.later HB2.out).lt
        obtain ⟨hD2, b0, b1, b2⟩ := HD0.out _ HB2.out
        go_wp2_with (at_builtin; refine wpList_append_own _ rfl _ _ 26 rfl w1.heap.size 5 i0 (.int .u8 0) 1 1 Try.underlying26 hi hz0 hz1 hz2 rfl (by decide) _ (t + 1 + 1 + 1) _ rfl (row_later ROW2.out (Below.al (Below.refl _ _))) ⟨y2.heap.size, 0, none⟩ 1 1 [.int .u8 x2] rfl rfl (Own.newAt (by rfl)).news (by intro v hv; simp at hv; subst hv; rfl) (by have := N63.out; omega) (by have := NBY.out; omega) HS2.out ?_; intro v' y3 hrow hgr _; obtain ⟨p2_, c2_, rfl, _⟩ := row_form hrow; have HB3 := Lib.hid ((Below.al HB2.out).grown hgr (Below.al HB2.out).size fun q hq => row_ge ROW2.out q hq); have ROW3 := Lib.hid (XS2.out ▸ hrow); clear hrow hgr)
        clear ROW2 HB2 HS2 A1 Al hD2 b0 b1 b2
        rw [rounds_succ]
        go_wp2_with (fail)
        go_roundw
        case rel => (first | exact ⟨k + 1, t + 3, _, _, HLT.out, Lib.hid (by have := HT.out; omega), rfl, by go_num, ROW3, HB3⟩ | ((repeat apply Exists.intro); exact ⟨⟨k + 1, t + 3, _, _, HLT.out, Lib.hid (by have := HT.out; omega), rfl, by go_num, ROW3, HB3⟩, rfl⟩))
        case measure => (have := HLT.out; simp [intOf]; omega)
      · obtain rfl : k = n := by omega
        have A1 := (HA1.out.later HB.out).at 1 _ rfl; have Al := (HA1.out.later HB.out).lt
        have RW := Lib.hid (RowR.of ROW.out)
        rw [HT.out, Nat.add_comm] at RW
        have HB2 := Lib.hid (Below.go HB1.out HB.out)
        clear hlt hk ROW HB HB1 BU
        rw [HT.out, Nat.add_comm]
        go_wp2_with (fail)
        exact bodyPost_ret (v := .tuple #[_, .int .i64 0]) (by simp [results, Try.results10, go_sem]) rfl ⟨⟨_, rfl, RW.out⟩, HB2.out⟩
  · have hd : (z != 0) = true := by simpa using hz
    rw [show encTL z n = 0 from if_neg hz]
    clear GD
    go_enter Try.func10, Try.ntmps10
    go_upto_region 1 with fail
    obtain ⟨W0, hW⟩ : ∃ W0, W0 = (w.alloc (.cells #[.int .i64 S, .slice q n c] 24)) := ⟨_, rfl⟩
    have hB0 : Below w.heap.size w W0 := hW ▸ (Below.al (Below.refl _ _))
    have HA : Hid (Own w.heap.size [.int .i64 S, .slice q n c] W0) := Lib.hid (hW ▸ (Own.newAt (by simp)))
    rw [← hW]
    clear hW
    obtain ⟨A, eA⟩ : ∃ X, X = w.heap.size := ⟨_, rfl⟩
    rw [← eA] at HA ⊢
    clear eA
    have HM0 := Lib.hid (HM.out.later hB0)
    have A0 := HA.out.at 0 _ rfl; have A1 := HA.out.at 1 _ rfl; have Al := HA.out.lt
    go_wp2_with (fail)
    go_at_call 12
    refine (CK.out _ HM0.out).mono ?_
    rintro e w1 ⟨rfl, hb⟩
    have HB1 := Lib.hid (Below.go hB0 hb)
    clear hb hB0 HM HM0 HA CK A0 A1 Al
    go_wp2_with (fail)
    exact bodyPost_ret (v := .tuple #[.slice none 0 0, .int .i64 z]) (by simp [results, Try.results10, go_sem]) rfl ⟨⟨_, rfl, none, 0, rfl, Nat.le_refl _, by decide, .inl rfl⟩, HB1.out⟩
end Go.Proofs.Ytbhdlpndmbhaiaa

/- UH -/
namespace Go.Proofs.Ytbhdlpndmbhaiaa
set_option linter.unusedVariables false
set_option maxRecDepth 2000
set_option linter.unusedSimpArgs false
open Go.RowKit
/-- x modulo s, from 0 on -/
theorem mod_pos (x : Int) (s : Nat) (h : 0 < s) : 0 ≤ x % (s : Int) ∧ x % (s : Int) < (s : Int) := ⟨Int.emod_nonneg _ (by omega), Int.emod_lt_of_pos _ (by omega)⟩
theorem tmod_emod (x s : Int) (hs : 0 < s) : (x.tmod s + s).tmod s = x % s := by
  have h1 := Int.emod_nonneg x (Int.ne_of_gt hs)
  have h2 := Int.emod_lt_of_pos x hs
  rcases Int.le_total 0 x with hx | hx
  · rw [Int.tmod_eq_emod_of_nonneg hx, Int.tmod_eq_emod_of_nonneg (by omega), Int.add_emod_right, Int.emod_emod_of_dvd _ (Int.dvd_refl s)]
  · have e : x.tmod s = if s ∣ x then 0 else x % s - s := by
      rw [Int.tmod_eq_emod]
      split
      · rename_i h
        rcases h with h | h
        · have : x = 0 := by omega
          subst this
          simp
        · rw [if_pos h, Int.emod_eq_zero_of_dvd h]; rfl
      · rename_i h
        rw [if_neg (fun hd => h (.inr hd)), Int.natAbs_of_nonneg (by omega)]
    rw [e]
    split
    · rename_i h
      rw [Int.emod_eq_zero_of_dvd h, Int.zero_add, Int.tmod_self]
    · rw [show x % s - s + s = x % s by omega, Int.tmod_eq_emod_of_nonneg h1, Int.emod_emod_of_dvd _ (Int.dvd_refl s)]
theorem tmod_if (x s : Int) (hs : 0 < s) : (if x.tmod s < 0 then x.tmod s + s else x.tmod s) = x % s := by
  have h := tmod_emod x s hs
  have h1 := Int.lt_tmod_of_pos x hs
  have h2 := Int.tmod_lt_of_pos x hs
  rw [← h]
  split
  · rename_i h3
    have h4 : (x.tmod s + s).tmod s = x.tmod s + s := by
      rw [Int.tmod_eq_emod_of_nonneg (by omega), Int.emod_eq_of_lt (by omega) (by omega)]
    exact h4.symm
  · rename_i h3
    have h4 : (x.tmod s + s).tmod s = x.tmod s := by
      rw [Int.tmod_eq_emod_of_nonneg (by omega), Int.add_emod_right, Int.emod_eq_of_lt (by omega) h2]
    exact h4.symm
set_option maxHeartbeats 2000000 in
theorem modulo_any (x s : Int) (h1 : 1 ≤ s) (h16 : s ≤ 16) (w : World) : Calls Try.prog 39 #[.int .i64 x, .int .i64 s] w fun e w' => e = .returned (.int .i64 (x % s)) ∧ w' = w := by
  have h0 : ¬s = 0 := by omega
  have a1 := Int.lt_tmod_of_pos x (show 0 < s by omega)
  have a2 := Int.tmod_lt_of_pos x (show 0 < s by omega)
  have e := tmod_emod x s (by omega)
  have E := Lib.hid e
  obtain ⟨t, et⟩ : ∃ t, x.tmod s = t := ⟨_, rfl⟩
  rw [et] at a1 a2 E
  have wa : IntKind.i64.wrap (t + s) = t + s := IntWalk.i64_in _ (by omega)
  have b1 : -(9223372036854775808 : Int) ≤ (t + s).tmod s := by have := E.out; have := Int.emod_nonneg x (show s ≠ 0 by omega); omega
  have b2 : (t + s).tmod s ≤ 9223372036854775807 := by have := E.out; have := Int.emod_lt_of_pos x (show 0 < s by omega); omega
  have wb : IntKind.i64.wrap ((t + s).tmod s) = (t + s).tmod s := IntWalk.i64_in _ ⟨by omega, by omega⟩
  have wc : IntKind.i64.wrap t = t := IntWalk.i64_in _ (by omega)
  clear b1 b2 e a1 a2 h1 h16
  go_enter Try.func39, Try.ntmps39
  go_wp2_with (fail)
  go_ret
  exact ⟨by rw [← E.out]; rfl, rfl⟩
set_option maxHeartbeats 2000000 in
theorem Mod_any (x s : Int) (h1 : 1 ≤ s) (h16 : s ≤ 16) (w : World) : Calls Try.prog 40 #[.int .i64 x, .int .i64 s] w fun e w' => e = .returned (.int .i64 (x % s)) ∧ w' = w := by
  have h0 : ¬s = 0 := by omega
  have a1 := Int.lt_tmod_of_pos x (show 0 < s by omega)
  have a2 := Int.tmod_lt_of_pos x (show 0 < s by omega)
  have E := Lib.hid (tmod_if x s (by omega))
  obtain ⟨t, et⟩ : ∃ t, x.tmod s = t := ⟨_, rfl⟩
  rw [et] at a1 a2 E
  have wa : IntKind.i64.wrap (t + s) = t + s := IntWalk.i64_in _ (by omega)
  have wc : IntKind.i64.wrap t = t := IntWalk.i64_in _ (by omega)
  clear a1 a2 h1 h16
  go_enter Try.func40, Try.ntmps40
  by_cases ht : t < 0
  · have e := E.out
    rw [if_pos ht] at e
    have E2 := Lib.hid e
    clear e E
    go_wp2_with (fail)
    go_ret
    exact ⟨by rw [← E2.out]; rfl, rfl⟩
  · have e := E.out
    rw [if_neg ht] at e
    have E2 := Lib.hid e
    have hd : decide (t < 0) = false := decide_eq_false ht
    clear e E ht
    go_wp2_with (fail)
    go_ret
    exact ⟨by rw [← E2.out]; rfl, rfl⟩
/-- a texel's number -/
def txl (f : Nat → Int) (s x y i : Nat) : Int := f ((y * s + x) * 3 + i)
set_option maxHeartbeats 4000000 in
theorem at_any (S : Int) (q : Option Addr) (n c s x y : Nat) (f : Nat → Int) (eS : S = (s : Int)) (hs : s ≤ 16) (hx : x ≤ 100) (hy : y ≤ 100) (hxy : y * s + x < n) (hc : c ≤ 9223372036854775807) (w : World) (hM : NmS w 3 q n f) :
    Calls Try.prog 38 #[.agg #[.int .i64 S, .slice q n c], .int .i64 x, .int .i64 y] w fun e w' => e = .returned (.agg #[.int .i64 (txl f s x y 0), .int .i64 (txl f s x y 1), .int .i64 (txl f s x y 2)]) ∧ Below w.heap.size w w' := by
  subst eS
  obtain ⟨k, ek⟩ : ∃ k, k = y * s + x := ⟨_, rfl⟩
  have TX : ∀ i, txl f s x y i = f (k * 3 + i) := fun i => by unfold txl; rw [ek]
  rw [TX 0, TX 1, TX 2, Nat.add_zero]
  obtain ⟨D, o, rfl, hD, c0, c1, c2⟩ := hM.at3 (show k < n by omega)
  have hb : y * s ≤ 1600 := Nat.le_trans (Nat.mul_le_mul hy hs) (by decide)
  have w1 : IntKind.i64.wrap ((y : Int) * (s : Int)) = ((y * s : Nat) : Int) := by rw [← Int.natCast_mul]; exact IntWalk.i64_in _ (by omega)
  have w2 : IntKind.i64.wrap (((y * s : Nat) : Int) + (x : Int)) = (k : Int) := by rw [ek]; exact IntWalk.i64_in _ (by omega)
  have k0 : (0 : Int) ≤ (k : Int) := by omega
  have kn : (k : Int) < (n : Int) := by omega
  generalize y * s = m at *
  generalize f (k * 3) = x0 at *
  generalize f (k * 3 + 1) = x1 at *
  generalize f (k * 3 + 2) = x2 at *
  clear TX hM hxy ek hb hc
  go_enter Try.func38, Try.ntmps38
  go_upto_region 1 with fail
  obtain ⟨W0, hW⟩ : ∃ W0, W0 = ((w.alloc (.cells #[.int .i64 (s : Int), .slice (some ⟨D, o, none⟩) n c] 24)).alloc (.cells #[.int .i64 0, .int .i64 0, .int .i64 0] 50)) := ⟨_, rfl⟩
  have hB0 : Below w.heap.size w W0 := hW ▸ (Below.al (Below.al (Below.refl _ _)))
  have HA : Hid (Own w.heap.size [.int .i64 (s : Int), .slice (some ⟨D, o, none⟩) n c] W0) := Lib.hid (hW ▸ (Own.newAt (by simp)).alloc)
  have HR : Hid (Own (w.heap.size + 1) [.int .i64 0, .int .i64 0, .int .i64 0] W0) := Lib.hid (hW ▸ (Own.newAt (by simp)))
  have d0 : W0.cell? ⟨D, o + k * 3, none⟩ = some (.int .i64 x0) := (hB0.cell (p := ⟨D, o + k * 3, none⟩) hD).trans c0
  have d1 : W0.cell? ⟨D, o + k * 3 + 1, none⟩ = some (.int .i64 x1) := (hB0.cell (p := ⟨D, o + k * 3 + 1, none⟩) hD).trans c1
  have d2 : W0.cell? ⟨D, o + k * 3 + 2, none⟩ = some (.int .i64 x2) := (hB0.cell (p := ⟨D, o + k * 3 + 2, none⟩) hD).trans c2
  have hDl : D < W0.heap.size := Nat.lt_of_lt_of_le hD hB0.size
  rw [← hW]
  clear hW c0 c1 c2
  obtain ⟨R, eR⟩ : ∃ X, X = (w.heap.size + 1) := ⟨_, rfl⟩
  rw [← eR] at HR ⊢
  have Rw : w.heap.size ≤ R := by omega
  obtain ⟨A, eA⟩ : ∃ X, X = w.heap.size := ⟨_, rfl⟩
  rw [← eA] at HA ⊢
  have nAR : A ≠ R := by omega
  have nRA : R ≠ A := by omega
  have nDR : D ≠ R := by omega
  clear eA eR hD
  have A0 := HA.out.at 0 _ rfl; have A1 := HA.out.at 1 _ rfl; have Al := HA.out.lt
  have R0 := HR.out.at 0 _ rfl; have Rf0 := HR.out.ok 0 (by simp); have R1 := HR.out.at 1 _ rfl; have Rf1 := HR.out.ok 1 (by simp); have R2 := HR.out.at 2 _ rfl; have Rf2 := HR.out.ok 2 (by simp); have Rl := HR.out.lt
  go_wp2_with (fail)
  clear A0 A1 Al R0 Rf0 R1 Rf1 R2 Rf2 Rl d0 d1 d2
  rw [show (((W0.setCell ⟨R, 0, none⟩ (.int .i64 x0)).setCell ⟨R, 1, none⟩ (.int .i64 x1)).setCell ⟨R, 2, none⟩ (.int .i64 x2)) = W0.setCells R 0 [.int .i64 x0, .int .i64 x1, .int .i64 x2] from rfl]
  have HR5 : Hid (Own R [.int .i64 x0, .int .i64 x1, .int .i64 x2] (W0.setCells R 0 [.int .i64 x0, .int .i64 x1, .int .i64 x2])) := Lib.hid (Own.store HR.out rfl)
  have HB5 : Below w.heap.size w (W0.setCells R 0 [.int .i64 x0, .int .i64 x1, .int .i64 x2]) := Below.setCells hB0 Rw _ _
  generalize W0.setCells R 0 [.int .i64 x0, .int .i64 x1, .int .i64 x2] = W5 at *
  have hL := run_loadVar_mid (P := Try.prog) _ R 0 50 [.int .i64 x0, .int .i64 x1, .int .i64 x2] _ HR5.out.cell Try.underlying50 rfl (by kernel_rfl)
  exact bodyPost_ret (v := .agg ([.int .i64 x0, .int .i64 x1, .int .i64 x2] : List Value).toArray) (res_cell Try.results38 rfl hL) rfl ⟨rfl, HB5⟩
end Go.Proofs.Ytbhdlpndmbhaiaa

/- UI -/
namespace Go.Proofs.Ytbhdlpndmbhaiaa
set_option linter.unusedVariables false
set_option maxRecDepth 2000
set_option linter.unusedSimpArgs false
open Go.RowKit
/-- the mean of four numbers -/
def meanF (a b c d : Int) : Int := (a + b + c + d + 2) / 4
theorem mean_in {a b c d : Int} (ha : 0 ≤ a ∧ a ≤ 255) (hb : 0 ≤ b ∧ b ≤ 255) (hc : 0 ≤ c ∧ c ≤ 255) (hd : 0 ≤ d ∧ d ≤ 255) : 0 ≤ meanF a b c d ∧ meanF a b c d ≤ 255 := by
  unfold meanF
  omega
def in255 (x : Int) : Prop := 0 ≤ x ∧ x ≤ 255
set_option maxHeartbeats 8000000 in
theorem mean_any (a0 a1 a2 b0 b1 b2 c0 c1 c2 d0 d1 d2 : Int) (ha0 : in255 a0) (ha1 : in255 a1) (ha2 : in255 a2) (hb0 : in255 b0) (hb1 : in255 b1) (hb2 : in255 b2) (hc0 : in255 c0) (hc1 : in255 c1) (hc2 : in255 c2) (hd0 : in255 d0) (hd1 : in255 d1) (hd2 : in255 d2) (w : World) : Calls Try.prog 51 #[.agg #[.int .i64 a0, .int .i64 a1, .int .i64 a2, .int .i64 b0, .int .i64 b1, .int .i64 b2, .int .i64 c0, .int .i64 c1, .int .i64 c2, .int .i64 d0, .int .i64 d1, .int .i64 d2]] w fun e w' => e = .returned (.agg #[.int .i64 (meanF a0 b0 c0 d0), .int .i64 (meanF a1 b1 c1 d1), .int .i64 (meanF a2 b2 c2 d2)]) ∧ Below w.heap.size w w' := by
  unfold in255 at *
  have u0 : IntKind.i64.wrap (a0 + b0) = a0 + b0 := IntWalk.i64_in _ (by omega)
  have v0 : IntKind.i64.wrap (a0 + b0 + c0) = a0 + b0 + c0 := IntWalk.i64_in _ (by omega)
  have x0 : IntKind.i64.wrap (a0 + b0 + c0 + d0) = a0 + b0 + c0 + d0 := IntWalk.i64_in _ (by omega)
  have y0_ : IntKind.i64.wrap (a0 + b0 + c0 + d0 + 2) = a0 + b0 + c0 + d0 + 2 := IntWalk.i64_in _ (by omega)
  have t0 : (a0 + b0 + c0 + d0 + 2).tdiv 4 = meanF a0 b0 c0 d0 := by rw [Int.tdiv_eq_ediv_of_nonneg (by omega)]; rfl
  have z0 : IntKind.i64.wrap (meanF a0 b0 c0 d0) = meanF a0 b0 c0 d0 := IntWalk.i64_in _ (by unfold meanF; omega)
  generalize meanF a0 b0 c0 d0 = m0 at *
  have u1 : IntKind.i64.wrap (a1 + b1) = a1 + b1 := IntWalk.i64_in _ (by omega)
  have v1 : IntKind.i64.wrap (a1 + b1 + c1) = a1 + b1 + c1 := IntWalk.i64_in _ (by omega)
  have x1 : IntKind.i64.wrap (a1 + b1 + c1 + d1) = a1 + b1 + c1 + d1 := IntWalk.i64_in _ (by omega)
  have y1_ : IntKind.i64.wrap (a1 + b1 + c1 + d1 + 2) = a1 + b1 + c1 + d1 + 2 := IntWalk.i64_in _ (by omega)
  have t1 : (a1 + b1 + c1 + d1 + 2).tdiv 4 = meanF a1 b1 c1 d1 := by rw [Int.tdiv_eq_ediv_of_nonneg (by omega)]; rfl
  have z1 : IntKind.i64.wrap (meanF a1 b1 c1 d1) = meanF a1 b1 c1 d1 := IntWalk.i64_in _ (by unfold meanF; omega)
  generalize meanF a1 b1 c1 d1 = m1 at *
  have u2 : IntKind.i64.wrap (a2 + b2) = a2 + b2 := IntWalk.i64_in _ (by omega)
  have v2 : IntKind.i64.wrap (a2 + b2 + c2) = a2 + b2 + c2 := IntWalk.i64_in _ (by omega)
  have x2 : IntKind.i64.wrap (a2 + b2 + c2 + d2) = a2 + b2 + c2 + d2 := IntWalk.i64_in _ (by omega)
  have y2_ : IntKind.i64.wrap (a2 + b2 + c2 + d2 + 2) = a2 + b2 + c2 + d2 + 2 := IntWalk.i64_in _ (by omega)
  have t2 : (a2 + b2 + c2 + d2 + 2).tdiv 4 = meanF a2 b2 c2 d2 := by rw [Int.tdiv_eq_ediv_of_nonneg (by omega)]; rfl
  have z2 : IntKind.i64.wrap (meanF a2 b2 c2 d2) = meanF a2 b2 c2 d2 := IntWalk.i64_in _ (by unfold meanF; omega)
  generalize meanF a2 b2 c2 d2 = m2 at *
  clear ha0 ha1 ha2 hb0 hb1 hb2 hc0 hc1 hc2 hd0 hd1 hd2
  go_enter Try.func51, Try.ntmps51
  go_upto_region 1 with fail
  obtain ⟨W0, hW⟩ : ∃ W0, W0 = ((w.alloc (.cells #[.int .i64 a0, .int .i64 a1, .int .i64 a2, .int .i64 b0, .int .i64 b1, .int .i64 b2, .int .i64 c0, .int .i64 c1, .int .i64 c2, .int .i64 d0, .int .i64 d1, .int .i64 d2] 88)).alloc (.cells #[.int .i64 0, .int .i64 0, .int .i64 0] 50)) := ⟨_, rfl⟩
  have hB0 : Below w.heap.size w W0 := hW ▸ (Below.al (Below.al (Below.refl _ _)))
  have HA : Hid (Own w.heap.size [.int .i64 a0, .int .i64 a1, .int .i64 a2, .int .i64 b0, .int .i64 b1, .int .i64 b2, .int .i64 c0, .int .i64 c1, .int .i64 c2, .int .i64 d0, .int .i64 d1, .int .i64 d2] W0) := Lib.hid (hW ▸ (Own.newAt (by simp)).alloc)
  have HR : Hid (Own (w.heap.size + 1) [.int .i64 0, .int .i64 0, .int .i64 0] W0) := Lib.hid (hW ▸ (Own.newAt (by simp)))
  rw [← hW]
  clear hW
  obtain ⟨R, eR⟩ : ∃ X, X = (w.heap.size + 1) := ⟨_, rfl⟩
  rw [← eR] at HR ⊢
  have Rw : w.heap.size ≤ R := by omega
  obtain ⟨A, eA⟩ : ∃ X, X = w.heap.size := ⟨_, rfl⟩
  rw [← eA] at HA ⊢
  have nAR : A ≠ R := by omega
  have nRA : R ≠ A := by omega
  clear eA eR
  have HB := Lib.hid hB0; have RW := Lib.hid Rw
  clear hB0 Rw
  go_wp2_with (fail)
  refine wp_loop_rounds 4 ?_
  rw [rounds_succ]
  have q0 := HA.out.at 0 _ rfl; have q1 := HA.out.at 3 _ rfl; have q2 := HA.out.at 6 _ rfl; have q3 := HA.out.at 9 _ rfl; have Al := HA.out.lt
  go_wp2_with (fail)
  go_quiet (fail)
  have hBd : Below W0.heap.size W0 (W0.drewN nq) := below_drewN (Below.refl _ _) _
  have HA_ := Lib.hid (HA.out.later hBd); have HR_ := Lib.hid (HR.out.later hBd); have HB_ := Lib.hid (Below.go HB.out hBd)
  clear HA HR HB hBd q0 q1 q2 q3 Al
  generalize W0.drewN nq = y0 at *
  have HR := HR_; have HA := HA_; have HB := HB_
  clear HR_ HA_ HB_
  have r0 := HR.out.at 0 _ rfl; have rf := HR.out.ok 0 (by simp); have Rl := HR.out.lt
  go_wp2_with (fail)
  clear r0 rf Rl u0 v0 x0 y0_ t0 z0
  rw [show (y0.setCell ⟨R, 0, none⟩ (.int .i64 m0)) = y0.setCells R 0 [.int .i64 m0] from rfl]
  have HR_ : Hid (Own R [.int .i64 m0, .int .i64 0, .int .i64 0] (y0.setCells R 0 [.int .i64 m0])) := Lib.hid (show Own R (over _ 0 [.int .i64 m0]) _ from Own.part HR.out (by simp))
  have HA_ := Lib.hid (Own.far (o := 0) (vs := [.int .i64 m0]) HA.out nAR)
  have HB_ := Lib.hid (Below.setCells HB.out RW.out [.int .i64 m0] 0)
  clear HR HA HB
  generalize y0.setCells R 0 [.int .i64 m0] = v0_ at *
  have HR := HR_; have HA := HA_; have HB := HB_
  clear HR_ HA_ HB_
  rw [rounds_succ]
  have q0 := HA.out.at 1 _ rfl; have q1 := HA.out.at 4 _ rfl; have q2 := HA.out.at 7 _ rfl; have q3 := HA.out.at 10 _ rfl; have Al := HA.out.lt
  go_wp2_with (fail)
  go_quiet (fail)
  have hBd : Below v0_.heap.size v0_ (v0_.drewN nq) := below_drewN (Below.refl _ _) _
  have HA_ := Lib.hid (HA.out.later hBd); have HR_ := Lib.hid (HR.out.later hBd); have HB_ := Lib.hid (Below.go HB.out hBd)
  clear HA HR HB hBd q0 q1 q2 q3 Al
  generalize v0_.drewN nq = y1 at *
  have HR := HR_; have HA := HA_; have HB := HB_
  clear HR_ HA_ HB_
  have r0 := HR.out.at 1 _ rfl; have rf := HR.out.ok 1 (by simp); have Rl := HR.out.lt
  go_wp2_with (fail)
  clear r0 rf Rl u1 v1 x1 y1_ t1 z1
  rw [show (y1.setCell ⟨R, 1, none⟩ (.int .i64 m1)) = y1.setCells R 1 [.int .i64 m1] from rfl]
  have HR_ : Hid (Own R [.int .i64 m0, .int .i64 m1, .int .i64 0] (y1.setCells R 1 [.int .i64 m1])) := Lib.hid (show Own R (over _ 1 [.int .i64 m1]) _ from Own.part HR.out (by simp))
  have HA_ := Lib.hid (Own.far (o := 1) (vs := [.int .i64 m1]) HA.out nAR)
  have HB_ := Lib.hid (Below.setCells HB.out RW.out [.int .i64 m1] 1)
  clear HR HA HB
  generalize y1.setCells R 1 [.int .i64 m1] = v1_ at *
  have HR := HR_; have HA := HA_; have HB := HB_
  clear HR_ HA_ HB_
  rw [rounds_succ]
  have q0 := HA.out.at 2 _ rfl; have q1 := HA.out.at 5 _ rfl; have q2 := HA.out.at 8 _ rfl; have q3 := HA.out.at 11 _ rfl; have Al := HA.out.lt
  go_wp2_with (fail)
  go_quiet (fail)
  have hBd : Below v1_.heap.size v1_ (v1_.drewN nq) := below_drewN (Below.refl _ _) _
  have HA_ := Lib.hid (HA.out.later hBd); have HR_ := Lib.hid (HR.out.later hBd); have HB_ := Lib.hid (Below.go HB.out hBd)
  clear HA HR HB hBd q0 q1 q2 q3 Al
  generalize v1_.drewN nq = y2 at *
  have HR := HR_; have HA := HA_; have HB := HB_
  clear HR_ HA_ HB_
  have r0 := HR.out.at 2 _ rfl; have rf := HR.out.ok 2 (by simp); have Rl := HR.out.lt
  go_wp2_with (fail)
  clear r0 rf Rl u2 v2 x2 y2_ t2 z2
  rw [show (y2.setCell ⟨R, 2, none⟩ (.int .i64 m2)) = y2.setCells R 2 [.int .i64 m2] from rfl]
  have HR_ : Hid (Own R [.int .i64 m0, .int .i64 m1, .int .i64 m2] (y2.setCells R 2 [.int .i64 m2])) := Lib.hid (show Own R (over _ 2 [.int .i64 m2]) _ from Own.part HR.out (by simp))
  have HA_ := Lib.hid (Own.far (o := 2) (vs := [.int .i64 m2]) HA.out nAR)
  have HB_ := Lib.hid (Below.setCells HB.out RW.out [.int .i64 m2] 2)
  clear HR HA HB
  generalize y2.setCells R 2 [.int .i64 m2] = v2_ at *
  have HR := HR_; have HA := HA_; have HB := HB_
  clear HR_ HA_ HB_
  rw [rounds_succ]
  have R0 := HR.out.at 0 _ rfl; have Rf0 := HR.out.ok 0 (by simp); have R1 := HR.out.at 1 _ rfl; have Rf1 := HR.out.ok 1 (by simp); have R2 := HR.out.at 2 _ rfl; have Rf2 := HR.out.ok 2 (by simp); have Rl := HR.out.lt
  go_wp2_with (fail)
  clear R0 Rf0 R1 Rf1 R2 Rf2 Rl
  rw [show (((v2_.setCell ⟨R, 0, none⟩ (.int .i64 m0)).setCell ⟨R, 1, none⟩ (.int .i64 m1)).setCell ⟨R, 2, none⟩ (.int .i64 m2)) = v2_.setCells R 0 [.int .i64 m0, .int .i64 m1, .int .i64 m2] from rfl]
  have HR5 : Hid (Own R [.int .i64 m0, .int .i64 m1, .int .i64 m2] (v2_.setCells R 0 [.int .i64 m0, .int .i64 m1, .int .i64 m2])) := Lib.hid (Own.store HR.out rfl)
  have HB5 : Below w.heap.size w (v2_.setCells R 0 [.int .i64 m0, .int .i64 m1, .int .i64 m2]) := Below.setCells HB.out RW.out _ _
  generalize v2_.setCells R 0 [.int .i64 m0, .int .i64 m1, .int .i64 m2] = W5 at *
  have hL := run_loadVar_mid (P := Try.prog) _ R 0 50 [.int .i64 m0, .int .i64 m1, .int .i64 m2] _ HR5.out.cell Try.underlying50 rfl (by kernel_rfl)
  exact bodyPost_ret (v := .agg ([.int .i64 m0, .int .i64 m1, .int .i64 m2] : List Value).toArray) (res_cell Try.results51 rfl hL) rfl ⟨rfl, HB5⟩
end Go.Proofs.Ytbhdlpndmbhaiaa

/- UJ -/
namespace Go.Proofs.Ytbhdlpndmbhaiaa
set_option linter.unusedVariables false
set_option maxRecDepth 2000
set_option linter.unusedSimpArgs false
open Go.RowKit
theorem calls_flip {P : Program} {f : FuncId} {args : Array Value} {w : World} {v : Ending} (h : Calls P f args w fun e w' => e = v ∧ w' = w) : Calls P f args w fun e w' => e = v ∧ w = w' := h.mono fun _ _ h => ⟨h.1, h.2.symm⟩
/-- a column or row modulo the side -/
def mdN (x : Int) (s : Nat) : Nat := (x % (s : Int)).toNat
theorem mdN_eq (x : Int) (s : Nat) (h : 0 < s) : x % (s : Int) = (mdN x s : Int) ∧ mdN x s < s := by
  have := mod_pos x s h
  unfold mdN
  omega
theorem ix_lt {s x y : Nat} (hx : x < s) (hy : y < s) : y * s + x < s * s := by
  have h : (y + 1) * s ≤ s * s := Nat.mul_le_mul_right s hy
  rw [Nat.succ_mul] at h
  omega
set_option maxHeartbeats 8000000 in
theorem Texel_any (S : Int) (q : Option Addr) (n c s : Nat) (x y : Int) (f : Nat → Int) (eS : S = (s : Int)) (h1 : 1 ≤ s) (hs : s ≤ 16) (hn : n = s * s) (w : World) (hM : NmS w 3 q n f) :
    Calls Try.prog 23 #[.agg #[.int .i64 S, .slice q n c], .int .i64 x, .int .i64 y] w fun e w' => e = .returned (.agg #[.int .i64 (txl f s (mdN x s) (mdN y s) 0), .int .i64 (txl f s (mdN x s) (mdN y s) 1), .int .i64 (txl f s (mdN x s) (mdN y s) 2)]) ∧ Below w.heap.size w w' := by
  subst eS
  have MX := Lib.hid (fun w => calls_flip (Mod_any x s (by omega) (by omega) w))
  have MY := Lib.hid (fun w => calls_flip (Mod_any y s (by omega) (by omega) w))
  have ex := mdN_eq x s h1; have ey := mdN_eq y s h1
  rw [ex.1] at MX
  rw [ey.1] at MY
  obtain ⟨X, eX⟩ : ∃ X, X = mdN x s := ⟨_, rfl⟩
  obtain ⟨Y, eY⟩ : ∃ Y, Y = mdN y s := ⟨_, rfl⟩
  rw [← eX] at MX ex ⊢
  rw [← eY] at MY ey ⊢
  obtain ⟨k, ek⟩ : ∃ k, k = Y * s + X := ⟨_, rfl⟩
  have TX : ∀ i, txl f s X Y i = f (k * 3 + i) := fun i => by unfold txl; rw [ek]
  rw [TX 0, TX 1, TX 2, Nat.add_zero]
  have hkn : k < n := by rw [ek, hn]; exact ix_lt ex.2 ey.2
  obtain ⟨D, o, rfl, hD, c0, c1, c2⟩ := hM.at3 hkn
  have hb : Y * s ≤ 256 := Nat.le_trans (Nat.mul_le_mul (Nat.le_of_lt ey.2) hs) (by have := Nat.mul_le_mul hs (Nat.le_refl 16); omega)
  have w1 : IntKind.i64.wrap ((Y : Int) * (s : Int)) = ((Y * s : Nat) : Int) := by rw [← Int.natCast_mul]; exact IntWalk.i64_in _ (by omega)
  have w2 : IntKind.i64.wrap (((Y * s : Nat) : Int) + (X : Int)) = (k : Int) := by rw [ek]; exact IntWalk.i64_in _ (by have := ex.2; omega)
  have k0 : (0 : Int) ≤ (k : Int) := by omega
  have kn : (k : Int) < (n : Int) := by omega
  generalize Y * s = m at *
  generalize f (k * 3) = x0 at *
  generalize f (k * 3 + 1) = x1 at *
  generalize f (k * 3 + 2) = x2 at *
  clear TX hM ek hb hkn hn eX eY ex ey h1 hs
  go_enter Try.func23, Try.ntmps23
  go_upto_region 1 with fail
  obtain ⟨W0, hW⟩ : ∃ W0, W0 = ((w.alloc (.cells #[.int .i64 (s : Int), .slice (some ⟨D, o, none⟩) n c] 24)).alloc (.cells #[.int .i64 0, .int .i64 0, .int .i64 0] 50)) := ⟨_, rfl⟩
  have hB0 : Below w.heap.size w W0 := hW ▸ (Below.al (Below.al (Below.refl _ _)))
  have HA : Hid (Own w.heap.size [.int .i64 (s : Int), .slice (some ⟨D, o, none⟩) n c] W0) := Lib.hid (hW ▸ (Own.newAt (by simp)).alloc)
  have HR : Hid (Own (w.heap.size + 1) [.int .i64 0, .int .i64 0, .int .i64 0] W0) := Lib.hid (hW ▸ (Own.newAt (by simp)))
  have d0 : W0.cell? ⟨D, o + k * 3, none⟩ = some (.int .i64 x0) := (hB0.cell (p := ⟨D, o + k * 3, none⟩) hD).trans c0
  have d1 : W0.cell? ⟨D, o + k * 3 + 1, none⟩ = some (.int .i64 x1) := (hB0.cell (p := ⟨D, o + k * 3 + 1, none⟩) hD).trans c1
  have d2 : W0.cell? ⟨D, o + k * 3 + 2, none⟩ = some (.int .i64 x2) := (hB0.cell (p := ⟨D, o + k * 3 + 2, none⟩) hD).trans c2
  have hDl : D < W0.heap.size := Nat.lt_of_lt_of_le hD hB0.size
  rw [← hW]
  clear hW c0 c1 c2
  obtain ⟨R, eR⟩ : ∃ X, X = (w.heap.size + 1) := ⟨_, rfl⟩
  rw [← eR] at HR ⊢
  have Rw : w.heap.size ≤ R := by omega
  obtain ⟨A, eA⟩ : ∃ X, X = w.heap.size := ⟨_, rfl⟩
  rw [← eA] at HA ⊢
  have nAR : A ≠ R := by omega
  have nRA : R ≠ A := by omega
  have nDR : D ≠ R := by omega
  clear eA eR hD
  have A0 := HA.out.at 0 _ rfl; have A1 := HA.out.at 1 _ rfl; have Al := HA.out.lt
  refine wp_region_still_tail 16 (by kernel_rfl) (by kernel_rfl) ?_; simp only [List.take_succ_cons, List.take_zero, List.drop_succ_cons, List.drop_zero]; change wpStill _ _ (World.drew _) (fun a1 => wpList _ _ _ _ a1 (World.drew _)) _ _; repeat still_step
  refine wpStill_step (fun K hK => ?_); go_simp; refine ⟨_, (MY.out _).mono (fun _ _ h => ⟨h.1, h.2.symm⟩), hK _ ?_⟩; clear hK K; repeat still_step
  refine wpStill_step (fun K hK => ?_); go_simp; refine ⟨_, (MX.out _).mono (fun _ _ h => ⟨h.1, h.2.symm⟩), hK _ ?_⟩; clear hK K; repeat still_step
  refine wpStill_nil ?_
  clear A0 A1 Al d0 d1 d2 hDl
  have HRd := Lib.hid (HR.out.drew)
  refine wpList_store_mid rfl 50 _ _ rfl R 0 ([.int .i64 x0, .int .i64 x1, .int .i64 x2]).toArray rfl rfl HRd.out.free (by kernel_rfl) (by simp [Value.oneCell']) ?_
  have HR5 : Hid (Own R [.int .i64 x0, .int .i64 x1, .int .i64 x2] (W0.drew.setCells R 0 [.int .i64 x0, .int .i64 x1, .int .i64 x2])) := Lib.hid (Own.store HRd.out rfl)
  have HB5 : Below w.heap.size w (W0.drew.setCells R 0 [.int .i64 x0, .int .i64 x1, .int .i64 x2]) := Below.setCells hB0.drew Rw _ _
  change wpList _ _ _ [] _ (W0.drew.setCells R 0 [.int .i64 x0, .int .i64 x1, .int .i64 x2])
  generalize W0.drew.setCells R 0 [.int .i64 x0, .int .i64 x1, .int .i64 x2] = W5 at *
  go_wp2_with (fail)
  have hL := run_loadVar_mid (P := Try.prog) _ R 0 50 [.int .i64 x0, .int .i64 x1, .int .i64 x2] _ HR5.out.cell Try.underlying50 rfl (by kernel_rfl)
  exact bodyPost_ret (v := .agg ([.int .i64 x0, .int .i64 x1, .int .i64 x2] : List Value).toArray) (res_cell Try.results23 rfl hL) rfl ⟨rfl, HB5⟩
set_option maxHeartbeats 8000000 in
theorem At_no (M : Txr) (x y : Int) (w : World) (hM : TxAt M w) (hz : chkT M.S M.n M.f ≠ 0) :
    Calls Try.prog 22 #[.agg #[.int .i64 M.S, .slice M.q M.n M.c], .int .i64 x, .int .i64 y] w fun e w' => e = .returned (.tuple #[.agg #[.int .i64 0, .int .i64 0, .int .i64 0], .int .i64 (chkT M.S M.n M.f)]) ∧ Below w.heap.size w w' := by
  have HM := Lib.hid hM
  have CK := Lib.hid (Check_any M)
  obtain ⟨S, q, n, c, f⟩ := M
  dsimp only at *
  generalize chkT S n f = z at *
  have hd : (z != 0) = true := by simpa using hz
  clear hM hz
  go_enter Try.func22, Try.ntmps22
  go_upto_region 1 with fail
  obtain ⟨W0, hW⟩ : ∃ W0, W0 = ((w.alloc (.cells #[.int .i64 S, .slice q n c] 24)).alloc (.cells #[.int .i64 0, .int .i64 0, .int .i64 0] 50)) := ⟨_, rfl⟩
  have hB0 : Below w.heap.size w W0 := hW ▸ (Below.al (Below.al (Below.refl _ _)))
  have HA : Hid (Own w.heap.size [.int .i64 S, .slice q n c] W0) := Lib.hid (hW ▸ (Own.newAt (by simp)).alloc)
  have HR : Hid (Own (w.heap.size + 1) [.int .i64 0, .int .i64 0, .int .i64 0] W0) := Lib.hid (hW ▸ (Own.newAt (by simp)))
  rw [← hW]
  clear hW
  obtain ⟨R, eR⟩ : ∃ X, X = (w.heap.size + 1) := ⟨_, rfl⟩
  rw [← eR] at HR ⊢
  have Rw : w.heap.size ≤ R := by omega
  obtain ⟨A, eA⟩ : ∃ X, X = w.heap.size := ⟨_, rfl⟩
  rw [← eA] at HA ⊢
  have nAR : A ≠ R := by omega
  have nRA : R ≠ A := by omega
  clear eA eR
  have HM0 := Lib.hid (HM.out.later hB0)
  have A0 := HA.out.at 0 _ rfl; have A1 := HA.out.at 1 _ rfl; have Al := HA.out.lt
  go_wp2_with (fail)
  go_at_call 11
  refine (CK.out _ HM0.out).mono ?_
  rintro e w1 ⟨rfl, hb⟩
  have HA1 := Lib.hid (HA.out.later hb)
  have HR1 := Lib.hid (HR.out.later hb)
  have HB1 := Lib.hid (Below.go hB0 hb)
  clear hb hB0 HM0 HA HR CK A0 A1 Al
  have R0 := HR1.out.at 0 _ rfl; have Rf0 := HR1.out.ok 0 (by simp); have R1 := HR1.out.at 1 _ rfl; have Rf1 := HR1.out.ok 1 (by simp); have R2 := HR1.out.at 2 _ rfl; have Rf2 := HR1.out.ok 2 (by simp); have Rl := HR1.out.lt
  go_wp2_with (fail)
  clear R0 Rf0 R1 Rf1 R2 Rf2 Rl
  rw [show (((w1.setCell ⟨R, 0, none⟩ (.int .i64 0)).setCell ⟨R, 1, none⟩ (.int .i64 0)).setCell ⟨R, 2, none⟩ (.int .i64 0)) = w1.setCells R 0 [.int .i64 0, .int .i64 0, .int .i64 0] from rfl]
  have HR5 : Hid (Own R [.int .i64 0, .int .i64 0, .int .i64 0] (w1.setCells R 0 [.int .i64 0, .int .i64 0, .int .i64 0])) := Lib.hid (Own.store HR1.out rfl)
  have HB5 : Below w.heap.size w (w1.setCells R 0 [.int .i64 0, .int .i64 0, .int .i64 0]) := Below.setCells HB1.out Rw _ _
  generalize w1.setCells R 0 [.int .i64 0, .int .i64 0, .int .i64 0] = W5 at *
  have hL := run_loadVar_mid (P := Try.prog) _ R 0 50 [.int .i64 0, .int .i64 0, .int .i64 0] _ HR5.out.cell Try.underlying50 rfl (by kernel_rfl)
  refine bodyPost_ret (v := .tuple #[.agg ([.int .i64 0, .int .i64 0, .int .i64 0] : List Value).toArray, .int .i64 z]) ?_ rfl ?_
  · exact res_two Try.results22 rfl hL rfl
  · exact ⟨rfl, HB5⟩
set_option maxHeartbeats 8000000 in
theorem At_yes (M : Txr) (s : Nat) (x y : Int) (w : World) (hM : TxAt M w) (hz : chkT M.S M.n M.f = 0) (eS : M.S = (s : Int)) (h1 : 1 ≤ s) (h16 : s ≤ 16) (hn : M.n = s * s) :
    Calls Try.prog 22 #[.agg #[.int .i64 M.S, .slice M.q M.n M.c], .int .i64 x, .int .i64 y] w fun e w' => e = .returned (.tuple #[.agg #[.int .i64 (txl M.f s (mdN x s) (mdN y s) 0), .int .i64 (txl M.f s (mdN x s) (mdN y s) 1), .int .i64 (txl M.f s (mdN x s) (mdN y s) 2)], .int .i64 0]) ∧ Below w.heap.size w w' := by
  have HM := Lib.hid hM
  have CK := Lib.hid (Check_any M)
  obtain ⟨S, q, n, c, f⟩ := M
  dsimp only at *
  rw [hz] at CK
  have MX := Lib.hid (fun w => calls_flip (modulo_any x s (by omega) (by omega) w))
  have MY := Lib.hid (fun w => calls_flip (modulo_any y s (by omega) (by omega) w))
  have ex := mdN_eq x s h1; have ey := mdN_eq y s h1
  rw [ex.1, ← eS] at MX
  rw [ey.1, ← eS] at MY
  have AT := Lib.hid (fun w h => at_any S q n c s (mdN x s) (mdN y s) f eS h16 (by omega) (by omega) (by rw [hn]; exact ix_lt ex.2 ey.2) HM.out.m w h)
  generalize txl f s (mdN x s) (mdN y s) 0 = x0 at *
  generalize txl f s (mdN x s) (mdN y s) 1 = x1 at *
  generalize txl f s (mdN x s) (mdN y s) 2 = x2 at *
  clear hM hz ex ey hn eS h1 h16
  go_enter Try.func22, Try.ntmps22
  go_upto_region 1 with fail
  obtain ⟨W0, hW⟩ : ∃ W0, W0 = ((w.alloc (.cells #[.int .i64 S, .slice q n c] 24)).alloc (.cells #[.int .i64 0, .int .i64 0, .int .i64 0] 50)) := ⟨_, rfl⟩
  have hB0 : Below w.heap.size w W0 := hW ▸ (Below.al (Below.al (Below.refl _ _)))
  have HA : Hid (Own w.heap.size [.int .i64 S, .slice q n c] W0) := Lib.hid (hW ▸ (Own.newAt (by simp)).alloc)
  have HR : Hid (Own (w.heap.size + 1) [.int .i64 0, .int .i64 0, .int .i64 0] W0) := Lib.hid (hW ▸ (Own.newAt (by simp)))
  rw [← hW]
  clear hW
  obtain ⟨R, eR⟩ : ∃ X, X = (w.heap.size + 1) := ⟨_, rfl⟩
  rw [← eR] at HR ⊢
  have Rw : w.heap.size ≤ R := by omega
  obtain ⟨A, eA⟩ : ∃ X, X = w.heap.size := ⟨_, rfl⟩
  rw [← eA] at HA ⊢
  have nAR : A ≠ R := by omega
  have nRA : R ≠ A := by omega
  clear eA eR
  have HM0 := Lib.hid (HM.out.later hB0)
  have A0 := HA.out.at 0 _ rfl; have A1 := HA.out.at 1 _ rfl; have Al := HA.out.lt
  go_wp2_with (fail)
  go_at_call 11
  refine (CK.out _ HM0.out).mono ?_
  rintro e w1 ⟨rfl, hb⟩
  have HA1 := Lib.hid (HA.out.later hb)
  have HR1 := Lib.hid (HR.out.later hb)
  have HB1 := Lib.hid (Below.go hB0 hb)
  clear hb hB0 HM0 HA HR CK A0 A1 Al
  have HT1 := Lib.hid (HM.out.t.later HB1.out)
  dsimp only at HT1
  have A0 := HA1.out.at 0 _ rfl; have A1 := HA1.out.at 1 _ rfl; have Al := HA1.out.lt
  go_upto_region 4 with fail
  refine wp_region_still_tail 9 (by kernel_rfl) (by kernel_rfl) ?_; simp only [List.take_succ_cons, List.take_zero, List.drop_succ_cons, List.drop_zero]; change wpStill _ _ (World.drew _) (fun a1 => wpList _ _ _ _ a1 (World.drew _)) _ _; repeat still_step
  refine wpStill_step (fun K hK => ?_); go_simp; refine ⟨_, (MX.out _).mono (fun _ _ h => ⟨h.1, h.2.symm⟩), hK _ ?_⟩; clear hK K; repeat still_step
  refine wpStill_step (fun K hK => ?_); go_simp; refine ⟨_, (MY.out _).mono (fun _ _ h => ⟨h.1, h.2.symm⟩), hK _ ?_⟩; clear hK K; repeat still_step
  refine wpStill_nil ?_
  clear A0 A1 Al
  have hBd : Below w1.heap.size w1 w1.drew := (Below.refl _ _).drew
  have HT2 := Lib.hid (HT1.out.later hBd)
  go_wp2_with (fail)
  go_at_call 38
  refine (AT.out _ HT2.out).mono ?_
  rintro e w2 ⟨rfl, hb⟩
  have HR2 := Lib.hid ((HR1.out.later hBd).later hb)
  have HB2 := Lib.hid (Below.go (Below.go HB1.out hBd) hb)
  clear hb hBd HR1 HB1 HT1 HT2
  have R0 := HR2.out.at 0 _ rfl; have Rf0 := HR2.out.ok 0 (by simp); have R1 := HR2.out.at 1 _ rfl; have Rf1 := HR2.out.ok 1 (by simp); have R2 := HR2.out.at 2 _ rfl; have Rf2 := HR2.out.ok 2 (by simp); have Rl := HR2.out.lt
  go_wp2_with (fail)
  clear R0 Rf0 R1 Rf1 R2 Rf2 Rl
  rw [show (((w2.setCell ⟨R, 0, none⟩ (.int .i64 x0)).setCell ⟨R, 1, none⟩ (.int .i64 x1)).setCell ⟨R, 2, none⟩ (.int .i64 x2)) = w2.setCells R 0 [.int .i64 x0, .int .i64 x1, .int .i64 x2] from rfl]
  have HR5 : Hid (Own R [.int .i64 x0, .int .i64 x1, .int .i64 x2] (w2.setCells R 0 [.int .i64 x0, .int .i64 x1, .int .i64 x2])) := Lib.hid (Own.store HR2.out rfl)
  have HB5 : Below w.heap.size w (w2.setCells R 0 [.int .i64 x0, .int .i64 x1, .int .i64 x2]) := Below.setCells HB2.out Rw _ _
  generalize w2.setCells R 0 [.int .i64 x0, .int .i64 x1, .int .i64 x2] = W5 at *
  have hL := run_loadVar_mid (P := Try.prog) _ R 0 50 [.int .i64 x0, .int .i64 x1, .int .i64 x2] _ HR5.out.cell Try.underlying50 rfl (by kernel_rfl)
  refine bodyPost_ret (v := .tuple #[.agg ([.int .i64 x0, .int .i64 x1, .int .i64 x2] : List Value).toArray, .int .i64 0]) ?_ rfl ?_
  · exact res_two Try.results22 rfl hL rfl
  · exact ⟨rfl, HB5⟩
end Go.Proofs.Ytbhdlpndmbhaiaa

/- UK -/
namespace Go.Proofs.Ytbhdlpndmbhaiaa
set_option linter.unusedVariables false
set_option maxRecDepth 2000
set_option linter.unusedSimpArgs false
open Go.RowKit
/-- a number of the texel in column x and row y of the half -/
def hlfT (f : Nat → Int) (s x y i : Nat) : Int := meanF (txl f s (2 * x) (2 * y) i) (txl f s (2 * x + 1) (2 * y) i) (txl f s (2 * x) (2 * y + 1) i) (txl f s (2 * x + 1) (2 * y + 1) i)
/-- the numbers of the half -/
def hlfF (f : Nat → Int) (s h j : Nat) : Int := hlfT f s (j / 3 % h) (j / 3 / h) (j % 3)
theorem hlfF_at (f : Nat → Int) (s h x y i : Nat) (hx : x < h) (hi : i < 3) : hlfF f s h ((y * h + x) * 3 + i) = hlfT f s x y i := by
  unfold hlfF
  have e1 : ((y * h + x) * 3 + i) / 3 = y * h + x := by omega
  have e2 : ((y * h + x) * 3 + i) % 3 = i := by omega
  have e3 : (y * h + x) % h = x := by rw [Nat.mul_comm, Nat.mul_add_mod, Nat.mod_eq_of_lt hx]
  have e4 : (y * h + x) / h = y := by rw [Nat.mul_comm, Nat.mul_add_div (by omega), Nat.div_eq_of_lt hx, Nat.add_zero]
  rw [e1, e2, e3, e4]
theorem infoX : (Try.prog.info? 50).map (fun i => (i.zero, i.size, i.bytes)) = some (some (.agg #[.int .i64 0, .int .i64 0, .int .i64 0]), 3, 24) := by kernel_rfl
theorem infoX_parts : ∃ i, Try.prog.info? 50 = some i ∧ i.zero = some (.agg #[.int .i64 0, .int .i64 0, .int .i64 0]) ∧ i.size = 3 ∧ i.bytes = 24 := by
  obtain ⟨i, hi, h⟩ := Option.map_eq_some_iff.1 infoX
  simp only [Prod.mk.injEq] at h
  exact ⟨i, hi, h.1, h.2.1, h.2.2⟩
theorem ix2_lt {s h x y : Nat} (e : s = 2 * h) (hx : x < h) (hy : y < h) (a b : Nat) (ha : a ≤ 1) (hb : b ≤ 1) : (2 * y + b) * s + (2 * x + a) < s * s := by
  have h1 : (2 * y + b + 1) * s ≤ s * s := Nat.mul_le_mul_right s (by omega)
  rw [Nat.succ_mul] at h1
  omega
set_option maxHeartbeats 16000000 in
theorem half_any (S : Int) (q : Option Addr) (n c sd h : Nat) (f : Nat → Int) (eS : S = (sd : Int)) (es : sd = 2 * h) (h1 : 1 ≤ h) (h8 : h ≤ 8) (hn : n = sd * sd) (hf : ∀ j, j < n * 3 → 0 ≤ f j ∧ f j ≤ 255) (hc : c ≤ 9223372036854775807) (w : World) (hM : NmS w 3 q n f) :
    Calls Try.prog 35 #[.agg #[.int .i64 S, .slice q n c]] w fun e w' => ∃ p d, e = .returned (.agg #[.int .i64 h, .slice p (h * h) d]) ∧ w'.ownsRow w.heap.size 50 3 (.slice p (h * h) d) (h * h) (nums .i64 (hlfF f sd h) (h * h * 3)) ∧ Below w.heap.size w w' := by
  subst eS
  have HM := Lib.hid hM
  have AT := Lib.hid (fun x y hx hy hxy w hm => at_any (sd : Int) q n c sd x y f rfl (by omega) hx hy hxy hc w hm)
  have AX : Hid (∀ x y a b, x < h → y < h → a ≤ 1 → b ≤ 1 → (2 * y + b) * sd + (2 * x + a) < n) := Lib.hid fun x y a b hx hy ha hb => by rw [hn]; exact ix2_lt es hx hy a b ha hb
  have TF : Hid (∀ x y i, y * sd + x < n → i < 3 → in255 (txl f sd x y i)) := Lib.hid fun x y i hxy hi => hf _ (by omega)
  have HE := Lib.hid es; have HH8 := Lib.hid h8; have HH1 := Lib.hid h1
  have td : ((sd : Int)).tdiv 2 = (h : Int) := by rw [Int.tdiv_eq_ediv_of_nonneg (by omega)]; omega
  have wtd : IntKind.i64.wrap (h : Int) = (h : Int) := IntWalk.i64_in _ (by omega)
  obtain ⟨i0, hi, hz0, hz1, hz2⟩ := infoX_parts
  have HI := Lib.hid hi; have HZ0 := Lib.hid hz0; have HZ1 := Lib.hid hz1; have HZ2 := Lib.hid hz2
  clear hM hc hf hn es h8 h1 hi hz0 hz1 hz2
  obtain ⟨G, eG⟩ : ∃ G, G = hlfF f sd h := ⟨_, rfl⟩
  have GA : Hid (∀ x y i, x < h → i < 3 → G ((y * h + x) * 3 + i) = hlfT f sd x y i) := Lib.hid fun x y i hx hi => by rw [eG]; exact hlfF_at f sd h x y i hx hi
  rw [← eG]
  clear eG
  go_enter Try.func35, Try.ntmps35
  go_upto_region 1 with fail
  obtain ⟨W0, hW⟩ : ∃ W0, W0 = ((w.alloc (.cells #[.int .i64 (sd : Int), .slice q n c] 24)).alloc (.cells #[.int .i64 0, .slice none 0 0] 24)) := ⟨_, rfl⟩
  have hB0 : Below w.heap.size w W0 := hW ▸ (Below.al (Below.al (Below.refl _ _)))
  have HA : Hid (Own w.heap.size [.int .i64 (sd : Int), .slice q n c] W0) := Lib.hid (hW ▸ (Own.newAt (by simp)).alloc)
  have HQ : Hid (Own (w.heap.size + 1) [.int .i64 0, .slice none 0 0] W0) := Lib.hid (hW ▸ (Own.newAt (by simp)))
  rw [← hW]
  clear hW
  obtain ⟨Q, eQ⟩ : ∃ X, X = (w.heap.size + 1) := ⟨_, rfl⟩
  rw [← eQ] at HQ ⊢
  have Qw : w.heap.size ≤ Q := by omega
  obtain ⟨A, eA⟩ : ∃ X, X = w.heap.size := ⟨_, rfl⟩
  rw [← eA] at HA ⊢
  have Aw : w.heap.size ≤ A := by omega
  have nAQ : A ≠ Q := by omega
  have nQA : Q ≠ A := by omega
  clear eA eQ
  have HM0 := Lib.hid (HM.out.later hB0)
  have HB := Lib.hid hB0
  have QW := Lib.hid Qw
  clear hB0 HM Aw Qw
  have A0 := HA.out.at 0 _ rfl; have A1 := HA.out.at 1 _ rfl; have Al := HA.out.lt
  go_upto_region 2 with fail
  clear A0 A1 Al
  obtain ⟨W1, hW⟩ : ∃ W1, W1 = (W0.alloc (.cells #[.int .i64 h, .slice none 0 0] 24)) := ⟨_, rfl⟩
  have hB1 : Below W0.heap.size W0 W1 := hW ▸ (Below.al (Below.refl _ _))
  have HR : Hid (Own W0.heap.size [.int .i64 h, .slice none 0 0] W1) := Lib.hid (hW ▸ (Own.newAt (by simp)))
  rw [← hW]
  clear hW
  obtain ⟨R, eR⟩ : ∃ X, X = W0.heap.size := ⟨_, rfl⟩
  rw [← eR] at HR ⊢
  have Rw : W0.heap.size ≤ R := by omega
  clear eR
  have HX : Hid (Below W0.heap.size W0 W1) := Lib.hid hB1
  have RB : Hid (W0.heap.size ≤ W1.heap.size) := Lib.hid hB1.size
  have RL : Hid (R < W1.heap.size) := Lib.hid HR.out.lt
  have nAR : A ≠ R := by have := HA.out.lt; omega
  have nQR : Q ≠ R := by have := HQ.out.lt; omega
  have RW := Lib.hid Rw
  clear hB1 Rw td wtd
  go_wp2_with (fail)
  go_loopw [4] (fun iv wr => ∃ (k m t : Nat) (p3 : Option Addr) (c3 : Nat), k ≤ h ∧ Hid (m = 2 * k) ∧ Hid (t = k * h) ∧ iv = .int .i64 m ∧ Hid (Own R [.int .i64 h, .slice p3 t c3] wr) ∧ Hid (wr.ownsRow W1.heap.size 50 3 (.slice p3 t c3) t (nums .i64 G (t * 3))) ∧ Hid (Below W0.heap.size W0 wr) ∧ Hid (W1.heap.size ≤ wr.heap.size)) (fun iv _ => (sd - (intOf iv).toNat))
  case atStart => exact ⟨0, 0, 0, none, 0, Nat.zero_le _, Lib.hid rfl, Lib.hid (Nat.zero_mul _).symm, rfl, HR, Lib.hid (World.ownsRow_nil _ _ _ _), HX, Lib.hid (Nat.le_refl _)⟩
  case round =>
    clear HR HX
    obtain ⟨k, m, t, p3, c3, hk, HMK, HT, rfl, HR, ROW, HX, HZ⟩ := hrel
    by_cases hlt : k < h
    · have hki : (m : Int) < (sd : Int) := by have := HMK.out; have := HE.out; omega
      have k0 : (0 : Int) ≤ (m : Int) := by omega
      have wk : IntKind.i64.wrap ((m : Int) + 2) = (m : Int) + 2 := IntWalk.i64_in _ (by have := HMK.out; have := HH8.out; omega)
      have HLT := Lib.hid hlt
      clear hk hlt
      have A0 := (HA.out.later HX.out).at 0 _ rfl; have Al := (HA.out.later HX.out).lt
      go_wp2_with (fail)
      clear A0 Al
      go_loopw [5] (fun iv wr => ∃ (i x t : Nat) (p3 : Option Addr) (c3 : Nat), i ≤ h ∧ Hid (x = 2 * i) ∧ Hid (t = k * h + i) ∧ iv = .int .i64 x ∧ Hid (Own R [.int .i64 h, .slice p3 t c3] wr) ∧ Hid (wr.ownsRow W1.heap.size 50 3 (.slice p3 t c3) t (nums .i64 G (t * 3))) ∧ Hid (Below W0.heap.size W0 wr) ∧ Hid (W1.heap.size ≤ wr.heap.size)) (fun iv _ => (sd - (intOf iv).toNat))
      case atStart => exact ⟨0, 0, t, p3, c3, Nat.zero_le _, Lib.hid rfl, Lib.hid (by rw [HT.out]; rfl), rfl, HR, ROW, HX, HZ⟩
      case round =>
        clear HR ROW HX HZ HT
        obtain ⟨i, x, t, p3, c3, hi, HXI, HT, rfl, HR, ROW, HX, HZ⟩ := hrel
        by_cases hlt : i < h
        · have hxi : (x : Int) < (sd : Int) := by have := HXI.out; have := HE.out; omega
          have x0 : (0 : Int) ≤ (x : Int) := by omega
          have wx : IntKind.i64.wrap ((x : Int) + 2) = (x : Int) + 2 := IntWalk.i64_in _ (by have := HXI.out; have := HH8.out; omega)
          have wx1 : IntKind.i64.wrap ((x : Int) + 1) = ((x + 1 : Nat) : Int) := by rw [IntWalk.i64_in _ (by have := HXI.out; have := HH8.out; omega)]; omega
          have wm1 : IntKind.i64.wrap ((m : Int) + 1) = ((m + 1 : Nat) : Int) := by rw [IntWalk.i64_in _ (by have := HMK.out; have := HH8.out; have := HLT.out; omega)]; omega
          have HLI := Lib.hid hlt
          have A0 := (HA.out.later HX.out).at 0 _ rfl; have A1 := (HA.out.later HX.out).at 1 _ rfl; have Al := (HA.out.later HX.out).lt
          go_upto_region 8 with fail
          clear A0 A1 Al
          have Ia : m * sd + x < n := by have := AX.out i k 0 0 HLI.out HLT.out (by decide) (by decide); rw [HXI.out, HMK.out]; exact this
          have Ta := Lib.hid (AT.out x m (by have := HXI.out; have := HH8.out; omega) (by have := HMK.out; have := HH8.out; have := HLT.out; omega) Ia)
          have Ba0 := Lib.hid (TF.out x m 0 Ia (by decide))
          obtain ⟨a0, ea0⟩ : ∃ z, txl f sd x m 0 = z := ⟨_, rfl⟩
          rw [ea0] at Ba0 Ta
          have Ba1 := Lib.hid (TF.out x m 1 Ia (by decide))
          obtain ⟨a1, ea1⟩ : ∃ z, txl f sd x m 1 = z := ⟨_, rfl⟩
          rw [ea1] at Ba1 Ta
          have Ba2 := Lib.hid (TF.out x m 2 Ia (by decide))
          obtain ⟨a2, ea2⟩ : ∃ z, txl f sd x m 2 = z := ⟨_, rfl⟩
          rw [ea2] at Ba2 Ta
          have Ib : m * sd + (x + 1) < n := by have := AX.out i k 1 0 HLI.out HLT.out (by decide) (by decide); rw [HXI.out, HMK.out]; exact this
          have Tb := Lib.hid (AT.out (x + 1) m (by have := HXI.out; have := HH8.out; omega) (by have := HMK.out; have := HH8.out; have := HLT.out; omega) Ib)
          have Bb0 := Lib.hid (TF.out (x + 1) m 0 Ib (by decide))
          obtain ⟨b0, eb0⟩ : ∃ z, txl f sd (x + 1) m 0 = z := ⟨_, rfl⟩
          rw [eb0] at Bb0 Tb
          have Bb1 := Lib.hid (TF.out (x + 1) m 1 Ib (by decide))
          obtain ⟨b1, eb1⟩ : ∃ z, txl f sd (x + 1) m 1 = z := ⟨_, rfl⟩
          rw [eb1] at Bb1 Tb
          have Bb2 := Lib.hid (TF.out (x + 1) m 2 Ib (by decide))
          obtain ⟨b2, eb2⟩ : ∃ z, txl f sd (x + 1) m 2 = z := ⟨_, rfl⟩
          rw [eb2] at Bb2 Tb
          have Ic : (m + 1) * sd + x < n := by have := AX.out i k 0 1 HLI.out HLT.out (by decide) (by decide); rw [HXI.out, HMK.out]; exact this
          have Tc := Lib.hid (AT.out x (m + 1) (by have := HXI.out; have := HH8.out; omega) (by have := HMK.out; have := HH8.out; have := HLT.out; omega) Ic)
          have Bc0 := Lib.hid (TF.out x (m + 1) 0 Ic (by decide))
          obtain ⟨c0, ec0⟩ : ∃ z, txl f sd x (m + 1) 0 = z := ⟨_, rfl⟩
          rw [ec0] at Bc0 Tc
          have Bc1 := Lib.hid (TF.out x (m + 1) 1 Ic (by decide))
          obtain ⟨c1, ec1⟩ : ∃ z, txl f sd x (m + 1) 1 = z := ⟨_, rfl⟩
          rw [ec1] at Bc1 Tc
          have Bc2 := Lib.hid (TF.out x (m + 1) 2 Ic (by decide))
          obtain ⟨c2, ec2⟩ : ∃ z, txl f sd x (m + 1) 2 = z := ⟨_, rfl⟩
          rw [ec2] at Bc2 Tc
          have Id : (m + 1) * sd + (x + 1) < n := by have := AX.out i k 1 1 HLI.out HLT.out (by decide) (by decide); rw [HXI.out, HMK.out]; exact this
          have Td := Lib.hid (AT.out (x + 1) (m + 1) (by have := HXI.out; have := HH8.out; omega) (by have := HMK.out; have := HH8.out; have := HLT.out; omega) Id)
          have Bd0 := Lib.hid (TF.out (x + 1) (m + 1) 0 Id (by decide))
          obtain ⟨d0, ed0⟩ : ∃ z, txl f sd (x + 1) (m + 1) 0 = z := ⟨_, rfl⟩
          rw [ed0] at Bd0 Td
          have Bd1 := Lib.hid (TF.out (x + 1) (m + 1) 1 Id (by decide))
          obtain ⟨d1, ed1⟩ : ∃ z, txl f sd (x + 1) (m + 1) 1 = z := ⟨_, rfl⟩
          rw [ed1] at Bd1 Td
          have Bd2 := Lib.hid (TF.out (x + 1) (m + 1) 2 Id (by decide))
          obtain ⟨d2, ed2⟩ : ∃ z, txl f sd (x + 1) (m + 1) 2 = z := ⟨_, rfl⟩
          rw [ed2] at Bd2 Td
          have E0 : G (t * 3 + 0) = meanF a0 b0 c0 d0 := by
            rw [HT.out, GA.out i k 0 HLI.out (by decide)]
            unfold hlfT
            rw [← ea0, ← eb0, ← ec0, ← ed0, HXI.out, HMK.out]
          have E1 : G (t * 3 + 1) = meanF a1 b1 c1 d1 := by
            rw [HT.out, GA.out i k 1 HLI.out (by decide)]
            unfold hlfT
            rw [← ea1, ← eb1, ← ec1, ← ed1, HXI.out, HMK.out]
          have E2 : G (t * 3 + 2) = meanF a2 b2 c2 d2 := by
            rw [HT.out, GA.out i k 2 HLI.out (by decide)]
            unfold hlfT
            rw [← ea2, ← eb2, ← ec2, ← ed2, HXI.out, HMK.out]
          have MN := Lib.hid (mean_any a0 a1 a2 b0 b1 b2 c0 c1 c2 d0 d1 d2 Ba0.out Ba1.out Ba2.out Bb0.out Bb1.out Bb2.out Bc0.out Bc1.out Bc2.out Bd0.out Bd1.out Bd2.out)
          obtain ⟨g0, eg0⟩ : ∃ z, meanF a0 b0 c0 d0 = z := ⟨_, rfl⟩
          rw [eg0] at MN E0
          obtain ⟨g1, eg1⟩ : ∃ z, meanF a1 b1 c1 d1 = z := ⟨_, rfl⟩
          rw [eg1] at MN E1
          obtain ⟨g2, eg2⟩ : ∃ z, meanF a2 b2 c2 d2 = z := ⟨_, rfl⟩
          rw [eg2] at MN E2
          have XS : Hid (nums .i64 G (t * 3) ++ [.int .i64 g0, .int .i64 g1, .int .i64 g2] = nums .i64 G ((t + 1) * 3)) := Lib.hid (by
            rw [show (t + 1) * 3 = t * 3 + 3 by omega]
            refine nums_append .i64 G (fun j => [g0, g1, g2].getD j 0) (t * 3) 3 (fun j hj => ?_)
            match j, hj with
            | 0, _ => exact E0
            | 1, _ => exact E1
            | 2, _ => exact E2)
          have T64 : t ≤ 64 := by
            have h1 := ix_lt HLI.out HLT.out
            have h2 : h * h ≤ 64 := Nat.mul_le_mul HH8.out HH8.out
            have h3 := HT.out
            omega
          clear Ia Ib Ic Id ea0 Ba0 ea1 Ba1 ea2 Ba2 eb0 Bb0 eb1 Bb1 eb2 Bb2 ec0 Bc0 ec1 Bc1 ec2 Bc2 ed0 Bd0 ed1 Bd1 ed2 Bd2 E0 E1 E2 eg0 eg1 eg2 AX hlt hi
          refine wp_region_fun 28 (by kernel_rfl) (by kernel_rfl) rfl (fun s b => ⟨#[(.agg #[.int .i64 (sd : Int), .slice q n c]), .pointer (some ⟨A, 0, none⟩), .pointer (some ⟨Q, 0, none⟩), .pointer (some ⟨R, 0, none⟩), .int .i64 m, .int .i64 x, .pointer (some ⟨A, 0, none⟩), .int .i64 sd, .int .i64 h, (.agg #[.int .i64 h, .slice none 0 0]), .int .i64 m, .pointer (some ⟨A, 0, none⟩), .int .i64 sd, .bool true, u14, u15, .int .i64 x, .pointer (some ⟨A, 0, none⟩), .int .i64 sd, .bool true, u20, u21, s 22, s 23, s 24, s 25, s 26, s 27, s 28, s 29, s 30, s 31, s 32, s 33, s 34, s 35, s 36, s 37, s 38, s 39, s 40, s 41, s 42, s 43, s 44, s 45, s 46, s 47, s 48, undef], []⟩) (fun d s b w => (Below W0.heap.size W0 w) ∧ (d 0 = true → s 22 = .pointer (some ⟨R, 1, none⟩)) ∧ (d 1 = true → s 23 = (.slice p3 t c3)) ∧ (d 2 = true → s 24 = (.agg #[.int .i64 (sd : Int), .slice q n c])) ∧ (d 3 = true → s 25 = .int .i64 x) ∧ (d 4 = true → s 26 = .int .i64 m) ∧ (d 5 = true → s 27 = (.agg #[.int .i64 a0, .int .i64 a1, .int .i64 a2])) ∧ (d 6 = true → s 28 = (.agg #[.int .i64 (sd : Int), .slice q n c])) ∧ (d 7 = true → s 29 = .int .i64 x) ∧ (d 8 = true → s 30 = .int .i64 ((x + 1 : Nat) : Int)) ∧ (d 9 = true → s 31 = .int .i64 m) ∧ (d 10 = true → s 32 = (.agg #[.int .i64 b0, .int .i64 b1, .int .i64 b2])) ∧ (d 11 = true → s 33 = (.agg #[.int .i64 (sd : Int), .slice q n c])) ∧ (d 12 = true → s 34 = .int .i64 x) ∧ (d 13 = true → s 35 = .int .i64 m) ∧ (d 14 = true → s 36 = .int .i64 ((m + 1 : Nat) : Int)) ∧ (d 15 = true → s 37 = (.agg #[.int .i64 c0, .int .i64 c1, .int .i64 c2])) ∧ (d 16 = true → s 38 = (.agg #[.int .i64 (sd : Int), .slice q n c])) ∧ (d 17 = true → s 39 = .int .i64 x) ∧ (d 18 = true → s 40 = .int .i64 ((x + 1 : Nat) : Int)) ∧ (d 19 = true → s 41 = .int .i64 m) ∧ (d 20 = true → s 42 = .int .i64 ((m + 1 : Nat) : Int)) ∧ (d 21 = true → s 43 = (.agg #[.int .i64 d0, .int .i64 d1, .int .i64 d2])) ∧ (d 22 = true → s 44 = (.agg #[.int .i64 a0, .int .i64 a1, .int .i64 a2, .int .i64 b0, .int .i64 b1, .int .i64 b2, .int .i64 c0, .int .i64 c1, .int .i64 c2, .int .i64 d0, .int .i64 d1, .int .i64 d2])) ∧ (d 23 = true → s 45 = (.agg #[.int .i64 g0, .int .i64 g1, .int .i64 g2])) ∧ (d 24 = true → s 46 = .slice (some ⟨(b 24), 0, none⟩) 1 1 ∧ W0.heap.size ≤ b 24) ∧ (d 24 = true → d 25 = false → Own (b 24) [.int .i64 g0, .int .i64 g1, .int .i64 g2] w) ∧ (d 25 = false → w.ownsRow W1.heap.size 50 3 (.slice p3 t c3) t (nums .i64 G (t * 3))) ∧ (d 25 = true → w.ownsRow W1.heap.size 50 3 (s 47) (t + 1) ((nums .i64 G (t * 3)) ++ [.int .i64 g0, .int .i64 g1, .int .i64 g2])) ∧ (d 26 = true → s 48 = .pointer (some ⟨R, 1, none⟩)) ∧ (d 27 = false → Own R ([.int .i64 h, .slice p3 t c3]) w) ∧ (d 27 = true → Own R ([.int .i64 h, s 47]) w) ∧ (d 27 = true → d 1 = true) ∧ (d 27 = true → d 25 = true) ∧ (W1.heap.size ≤ w.heap.size)) rfl ?h0w2 (?stw2 : StepsF _ _ _ _ 28 _ _ [0, 1, 2, 3, 4, 5, 6, 7, 8, 9, 10, 11, 12, 13, 14, 15, 16, 17, 18, 19, 20, 21, 22, 23, 24, 25, 26, 27]) ?dnw2
          case h0w2 => exact ⟨Below.drew HX.out, (fun h => nomatch h), (fun h => nomatch h), (fun h => nomatch h), (fun h => nomatch h), (fun h => nomatch h), (fun h => nomatch h), (fun h => nomatch h), (fun h => nomatch h), (fun h => nomatch h), (fun h => nomatch h), (fun h => nomatch h), (fun h => nomatch h), (fun h => nomatch h), (fun h => nomatch h), (fun h => nomatch h), (fun h => nomatch h), (fun h => nomatch h), (fun h => nomatch h), (fun h => nomatch h), (fun h => nomatch h), (fun h => nomatch h), (fun h => nomatch h), (fun h => nomatch h), (fun h => nomatch h), (fun h => nomatch h), (fun h => nomatch h), (fun _ => row_later ROW.out (Below.refl _ _).drew), (fun h => nomatch h), (fun h => nomatch h), (fun _ => HR.out.drew), (fun h => nomatch h), (fun h => nomatch h), (fun h => nomatch h), HZ.out⟩
          case stw2 =>
            refine StepsF.cons (o := _) rfl (ws := []) (by kernel_rfl) (by decide) (fun d s b w hF hd hw K_ hK => ?_) ?_
            · have hB : Below W0.heap.size W0 w := (p0_ hF.out)
              dsimp only
              go_simp
              exact hK.out (ups s 22 (.pointer (some ⟨R, 1, none⟩))) b _ ⟨hB, (fun _ => rfl), (p2_ hF.out), (p3_ hF.out), (p4_ hF.out), (p5_ hF.out), (p6_ hF.out), (p7_ hF.out), (p8_ hF.out), (p9_ hF.out), (p10_ hF.out), (p11_ hF.out), (p12_ hF.out), (p13_ hF.out), (p14_ hF.out), (p15_ hF.out), (p16_ hF.out), (p17_ hF.out), (p18_ hF.out), (p19_ hF.out), (p20_ hF.out), (p21_ hF.out), (p22_ hF.out), (p23_ hF.out), (p24_ hF.out), (p25_ hF.out), (p26_ hF.out), (p27_ hF.out), (p28_ hF.out), (p29_ hF.out), (p30_ hF.out), (p31_ hF.out), (p32_ hF.out), (p33_ hF.out), (q34_ hF.out)⟩
            refine StepsF.cons (o := _) rfl (ws := [0]) (by kernel_rfl) (by decide) (fun d s b w hF hd hw K_ hK => ?_) ?_
            · have hB : Below W0.heap.size W0 w := (p0_ hF.out)
              have e0 : s 22 = .pointer (some ⟨R, 1, none⟩) := (p1_ hF.out) (hw 0 (by decide))
              dsimp only
              have R1 := ((p30_ hF.out) (by cases e : d 27 with | false => rfl | true => exact absurd ((p32_ hF.out) e) (by simp [hd]))).at 1 _ rfl
              go_simp
              exact hK.out (ups (ups s 22 (.pointer (some ⟨R, 1, none⟩))) 23 ((.slice p3 t c3))) b _ ⟨hB, (fun _ => rfl), (fun _ => rfl), (p3_ hF.out), (p4_ hF.out), (p5_ hF.out), (p6_ hF.out), (p7_ hF.out), (p8_ hF.out), (p9_ hF.out), (p10_ hF.out), (p11_ hF.out), (p12_ hF.out), (p13_ hF.out), (p14_ hF.out), (p15_ hF.out), (p16_ hF.out), (p17_ hF.out), (p18_ hF.out), (p19_ hF.out), (p20_ hF.out), (p21_ hF.out), (p22_ hF.out), (p23_ hF.out), (p24_ hF.out), (p25_ hF.out), (p26_ hF.out), (p27_ hF.out), (p28_ hF.out), (p29_ hF.out), (p30_ hF.out), (fun h => absurd ((p32_ hF.out) h) (by simp [hd])), (fun _ => rfl), (p33_ hF.out), (q34_ hF.out)⟩
            refine StepsF.cons (o := _) rfl (ws := []) (by kernel_rfl) (by decide) (fun d s b w hF hd hw K_ hK => ?_) ?_
            · have hB : Below W0.heap.size W0 w := (p0_ hF.out)
              dsimp only
              have oxa := HA.out.later hB
              have xa0 := oxa.at 0 _ rfl
              have xa1 := oxa.at 1 _ rfl
              clear oxa
              go_simp
              exact hK.out (ups s 24 ((.agg #[.int .i64 (sd : Int), .slice q n c]))) b _ ⟨hB, (p1_ hF.out), (p2_ hF.out), (fun _ => rfl), (p4_ hF.out), (p5_ hF.out), (p6_ hF.out), (p7_ hF.out), (p8_ hF.out), (p9_ hF.out), (p10_ hF.out), (p11_ hF.out), (p12_ hF.out), (p13_ hF.out), (p14_ hF.out), (p15_ hF.out), (p16_ hF.out), (p17_ hF.out), (p18_ hF.out), (p19_ hF.out), (p20_ hF.out), (p21_ hF.out), (p22_ hF.out), (p23_ hF.out), (p24_ hF.out), (p25_ hF.out), (p26_ hF.out), (p27_ hF.out), (p28_ hF.out), (p29_ hF.out), (p30_ hF.out), (p31_ hF.out), (p32_ hF.out), (p33_ hF.out), (q34_ hF.out)⟩
            refine StepsF.cons (o := _) rfl (ws := []) (by kernel_rfl) (by decide) (fun d s b w hF hd hw K_ hK => ?_) ?_
            · have hB : Below W0.heap.size W0 w := (p0_ hF.out)
              dsimp only
              go_simp
              exact hK.out (ups s 25 (.int .i64 x)) b _ ⟨hB, (p1_ hF.out), (p2_ hF.out), (p3_ hF.out), (fun _ => rfl), (p5_ hF.out), (p6_ hF.out), (p7_ hF.out), (p8_ hF.out), (p9_ hF.out), (p10_ hF.out), (p11_ hF.out), (p12_ hF.out), (p13_ hF.out), (p14_ hF.out), (p15_ hF.out), (p16_ hF.out), (p17_ hF.out), (p18_ hF.out), (p19_ hF.out), (p20_ hF.out), (p21_ hF.out), (p22_ hF.out), (p23_ hF.out), (p24_ hF.out), (p25_ hF.out), (p26_ hF.out), (p27_ hF.out), (p28_ hF.out), (p29_ hF.out), (p30_ hF.out), (p31_ hF.out), (p32_ hF.out), (p33_ hF.out), (q34_ hF.out)⟩
            refine StepsF.cons (o := _) rfl (ws := []) (by kernel_rfl) (by decide) (fun d s b w hF hd hw K_ hK => ?_) ?_
            · have hB : Below W0.heap.size W0 w := (p0_ hF.out)
              dsimp only
              go_simp
              exact hK.out (ups s 26 (.int .i64 m)) b _ ⟨hB, (p1_ hF.out), (p2_ hF.out), (p3_ hF.out), (p4_ hF.out), (fun _ => rfl), (p6_ hF.out), (p7_ hF.out), (p8_ hF.out), (p9_ hF.out), (p10_ hF.out), (p11_ hF.out), (p12_ hF.out), (p13_ hF.out), (p14_ hF.out), (p15_ hF.out), (p16_ hF.out), (p17_ hF.out), (p18_ hF.out), (p19_ hF.out), (p20_ hF.out), (p21_ hF.out), (p22_ hF.out), (p23_ hF.out), (p24_ hF.out), (p25_ hF.out), (p26_ hF.out), (p27_ hF.out), (p28_ hF.out), (p29_ hF.out), (p30_ hF.out), (p31_ hF.out), (p32_ hF.out), (p33_ hF.out), (q34_ hF.out)⟩
            refine StepsF.cons (o := _) rfl (ws := [2, 3, 4]) (by kernel_rfl) (by decide) (fun d s b w hF hd hw K_ hK => ?_) ?_
            · have hB : Below W0.heap.size W0 w := (p0_ hF.out)
              have e2 : s 24 = (.agg #[.int .i64 (sd : Int), .slice q n c]) := (p3_ hF.out) (hw 2 (by decide))
              have e3 : s 25 = .int .i64 x := (p4_ hF.out) (hw 3 (by decide))
              have e4 : s 26 = .int .i64 m := (p5_ hF.out) (hw 4 (by decide))
              dsimp only
              go_simp
              go_at_call 38
              refine (Ta.out _ (HM0.out.later hB)).mono ?_
              rintro e w1 ⟨rfl, hb⟩
              exact hK.out (ups (ups (ups (ups s 24 ((.agg #[.int .i64 (sd : Int), .slice q n c]))) 25 (.int .i64 x)) 26 (.int .i64 m)) 27 ((.agg #[.int .i64 a0, .int .i64 a1, .int .i64 a2]))) b _ ⟨(Below.go hB hb), (p1_ hF.out), (p2_ hF.out), (fun _ => rfl), (fun _ => rfl), (fun _ => rfl), (fun _ => rfl), (p7_ hF.out), (p8_ hF.out), (p9_ hF.out), (p10_ hF.out), (p11_ hF.out), (p12_ hF.out), (p13_ hF.out), (p14_ hF.out), (p15_ hF.out), (p16_ hF.out), (p17_ hF.out), (p18_ hF.out), (p19_ hF.out), (p20_ hF.out), (p21_ hF.out), (p22_ hF.out), (p23_ hF.out), (p24_ hF.out), (p25_ hF.out), (fun h0 h1 => ((p26_ hF.out) h0 h1).later hb), (fun h0 => row_later ((p27_ hF.out) h0) hb), (fun h0 => row_later ((p28_ hF.out) h0) hb), (p29_ hF.out), (fun h0 => ((p30_ hF.out) h0).later hb), (fun h0 => ((p31_ hF.out) h0).later hb), (p32_ hF.out), (p33_ hF.out), ((Nat.le_trans ((q34_ hF.out)) (hb).size))⟩
            refine StepsF.cons (o := _) rfl (ws := []) (by kernel_rfl) (by decide) (fun d s b w hF hd hw K_ hK => ?_) ?_
            · have hB : Below W0.heap.size W0 w := (p0_ hF.out)
              dsimp only
              have oxa := HA.out.later hB
              have xa0 := oxa.at 0 _ rfl
              have xa1 := oxa.at 1 _ rfl
              clear oxa
              go_simp
              exact hK.out (ups s 28 ((.agg #[.int .i64 (sd : Int), .slice q n c]))) b _ ⟨hB, (p1_ hF.out), (p2_ hF.out), (p3_ hF.out), (p4_ hF.out), (p5_ hF.out), (p6_ hF.out), (fun _ => rfl), (p8_ hF.out), (p9_ hF.out), (p10_ hF.out), (p11_ hF.out), (p12_ hF.out), (p13_ hF.out), (p14_ hF.out), (p15_ hF.out), (p16_ hF.out), (p17_ hF.out), (p18_ hF.out), (p19_ hF.out), (p20_ hF.out), (p21_ hF.out), (p22_ hF.out), (p23_ hF.out), (p24_ hF.out), (p25_ hF.out), (p26_ hF.out), (p27_ hF.out), (p28_ hF.out), (p29_ hF.out), (p30_ hF.out), (p31_ hF.out), (p32_ hF.out), (p33_ hF.out), (q34_ hF.out)⟩
            refine StepsF.cons (o := _) rfl (ws := []) (by kernel_rfl) (by decide) (fun d s b w hF hd hw K_ hK => ?_) ?_
            · have hB : Below W0.heap.size W0 w := (p0_ hF.out)
              dsimp only
              go_simp
              exact hK.out (ups s 29 (.int .i64 x)) b _ ⟨hB, (p1_ hF.out), (p2_ hF.out), (p3_ hF.out), (p4_ hF.out), (p5_ hF.out), (p6_ hF.out), (p7_ hF.out), (fun _ => rfl), (p9_ hF.out), (p10_ hF.out), (p11_ hF.out), (p12_ hF.out), (p13_ hF.out), (p14_ hF.out), (p15_ hF.out), (p16_ hF.out), (p17_ hF.out), (p18_ hF.out), (p19_ hF.out), (p20_ hF.out), (p21_ hF.out), (p22_ hF.out), (p23_ hF.out), (p24_ hF.out), (p25_ hF.out), (p26_ hF.out), (p27_ hF.out), (p28_ hF.out), (p29_ hF.out), (p30_ hF.out), (p31_ hF.out), (p32_ hF.out), (p33_ hF.out), (q34_ hF.out)⟩
            refine StepsF.cons (o := _) rfl (ws := [7]) (by kernel_rfl) (by decide) (fun d s b w hF hd hw K_ hK => ?_) ?_
            · have hB : Below W0.heap.size W0 w := (p0_ hF.out)
              have e7 : s 29 = .int .i64 x := (p8_ hF.out) (hw 7 (by decide))
              dsimp only
              go_simp
              exact hK.out (ups (ups s 29 (.int .i64 x)) 30 (.int .i64 ((x + 1 : Nat) : Int))) b _ ⟨hB, (p1_ hF.out), (p2_ hF.out), (p3_ hF.out), (p4_ hF.out), (p5_ hF.out), (p6_ hF.out), (p7_ hF.out), (fun _ => rfl), (fun _ => rfl), (p10_ hF.out), (p11_ hF.out), (p12_ hF.out), (p13_ hF.out), (p14_ hF.out), (p15_ hF.out), (p16_ hF.out), (p17_ hF.out), (p18_ hF.out), (p19_ hF.out), (p20_ hF.out), (p21_ hF.out), (p22_ hF.out), (p23_ hF.out), (p24_ hF.out), (p25_ hF.out), (p26_ hF.out), (p27_ hF.out), (p28_ hF.out), (p29_ hF.out), (p30_ hF.out), (p31_ hF.out), (p32_ hF.out), (p33_ hF.out), (q34_ hF.out)⟩
            refine StepsF.cons (o := _) rfl (ws := []) (by kernel_rfl) (by decide) (fun d s b w hF hd hw K_ hK => ?_) ?_
            · have hB : Below W0.heap.size W0 w := (p0_ hF.out)
              dsimp only
              go_simp
              exact hK.out (ups s 31 (.int .i64 m)) b _ ⟨hB, (p1_ hF.out), (p2_ hF.out), (p3_ hF.out), (p4_ hF.out), (p5_ hF.out), (p6_ hF.out), (p7_ hF.out), (p8_ hF.out), (p9_ hF.out), (fun _ => rfl), (p11_ hF.out), (p12_ hF.out), (p13_ hF.out), (p14_ hF.out), (p15_ hF.out), (p16_ hF.out), (p17_ hF.out), (p18_ hF.out), (p19_ hF.out), (p20_ hF.out), (p21_ hF.out), (p22_ hF.out), (p23_ hF.out), (p24_ hF.out), (p25_ hF.out), (p26_ hF.out), (p27_ hF.out), (p28_ hF.out), (p29_ hF.out), (p30_ hF.out), (p31_ hF.out), (p32_ hF.out), (p33_ hF.out), (q34_ hF.out)⟩
            refine StepsF.cons (o := _) rfl (ws := [6, 8, 9, 5]) (by kernel_rfl) (by decide) (fun d s b w hF hd hw K_ hK => ?_) ?_
            · have hB : Below W0.heap.size W0 w := (p0_ hF.out)
              have e5 : s 27 = (.agg #[.int .i64 a0, .int .i64 a1, .int .i64 a2]) := (p6_ hF.out) (hw 5 (by decide))
              have e6 : s 28 = (.agg #[.int .i64 (sd : Int), .slice q n c]) := (p7_ hF.out) (hw 6 (by decide))
              have e8 : s 30 = .int .i64 ((x + 1 : Nat) : Int) := (p9_ hF.out) (hw 8 (by decide))
              have e9 : s 31 = .int .i64 m := (p10_ hF.out) (hw 9 (by decide))
              dsimp only
              go_simp
              go_at_call 38
              refine (Tb.out _ (HM0.out.later hB)).mono ?_
              rintro e w1 ⟨rfl, hb⟩
              exact hK.out (ups (ups (ups (ups (ups s 27 ((.agg #[.int .i64 a0, .int .i64 a1, .int .i64 a2]))) 28 ((.agg #[.int .i64 (sd : Int), .slice q n c]))) 30 (.int .i64 ((x + 1 : Nat) : Int))) 31 (.int .i64 m)) 32 ((.agg #[.int .i64 b0, .int .i64 b1, .int .i64 b2]))) b _ ⟨(Below.go hB hb), (p1_ hF.out), (p2_ hF.out), (p3_ hF.out), (p4_ hF.out), (p5_ hF.out), (fun _ => rfl), (fun _ => rfl), (p8_ hF.out), (fun _ => rfl), (fun _ => rfl), (fun _ => rfl), (p12_ hF.out), (p13_ hF.out), (p14_ hF.out), (p15_ hF.out), (p16_ hF.out), (p17_ hF.out), (p18_ hF.out), (p19_ hF.out), (p20_ hF.out), (p21_ hF.out), (p22_ hF.out), (p23_ hF.out), (p24_ hF.out), (p25_ hF.out), (fun h0 h1 => ((p26_ hF.out) h0 h1).later hb), (fun h0 => row_later ((p27_ hF.out) h0) hb), (fun h0 => row_later ((p28_ hF.out) h0) hb), (p29_ hF.out), (fun h0 => ((p30_ hF.out) h0).later hb), (fun h0 => ((p31_ hF.out) h0).later hb), (p32_ hF.out), (p33_ hF.out), ((Nat.le_trans ((q34_ hF.out)) (hb).size))⟩
            refine StepsF.cons (o := _) rfl (ws := []) (by kernel_rfl) (by decide) (fun d s b w hF hd hw K_ hK => ?_) ?_
            · have hB : Below W0.heap.size W0 w := (p0_ hF.out)
              dsimp only
              have oxa := HA.out.later hB
              have xa0 := oxa.at 0 _ rfl
              have xa1 := oxa.at 1 _ rfl
              clear oxa
              go_simp
              exact hK.out (ups s 33 ((.agg #[.int .i64 (sd : Int), .slice q n c]))) b _ ⟨hB, (p1_ hF.out), (p2_ hF.out), (p3_ hF.out), (p4_ hF.out), (p5_ hF.out), (p6_ hF.out), (p7_ hF.out), (p8_ hF.out), (p9_ hF.out), (p10_ hF.out), (p11_ hF.out), (fun _ => rfl), (p13_ hF.out), (p14_ hF.out), (p15_ hF.out), (p16_ hF.out), (p17_ hF.out), (p18_ hF.out), (p19_ hF.out), (p20_ hF.out), (p21_ hF.out), (p22_ hF.out), (p23_ hF.out), (p24_ hF.out), (p25_ hF.out), (p26_ hF.out), (p27_ hF.out), (p28_ hF.out), (p29_ hF.out), (p30_ hF.out), (p31_ hF.out), (p32_ hF.out), (p33_ hF.out), (q34_ hF.out)⟩
            refine StepsF.cons (o := _) rfl (ws := []) (by kernel_rfl) (by decide) (fun d s b w hF hd hw K_ hK => ?_) ?_
            · have hB : Below W0.heap.size W0 w := (p0_ hF.out)
              dsimp only
              go_simp
              exact hK.out (ups s 34 (.int .i64 x)) b _ ⟨hB, (p1_ hF.out), (p2_ hF.out), (p3_ hF.out), (p4_ hF.out), (p5_ hF.out), (p6_ hF.out), (p7_ hF.out), (p8_ hF.out), (p9_ hF.out), (p10_ hF.out), (p11_ hF.out), (p12_ hF.out), (fun _ => rfl), (p14_ hF.out), (p15_ hF.out), (p16_ hF.out), (p17_ hF.out), (p18_ hF.out), (p19_ hF.out), (p20_ hF.out), (p21_ hF.out), (p22_ hF.out), (p23_ hF.out), (p24_ hF.out), (p25_ hF.out), (p26_ hF.out), (p27_ hF.out), (p28_ hF.out), (p29_ hF.out), (p30_ hF.out), (p31_ hF.out), (p32_ hF.out), (p33_ hF.out), (q34_ hF.out)⟩
            refine StepsF.cons (o := _) rfl (ws := []) (by kernel_rfl) (by decide) (fun d s b w hF hd hw K_ hK => ?_) ?_
            · have hB : Below W0.heap.size W0 w := (p0_ hF.out)
              dsimp only
              go_simp
              exact hK.out (ups s 35 (.int .i64 m)) b _ ⟨hB, (p1_ hF.out), (p2_ hF.out), (p3_ hF.out), (p4_ hF.out), (p5_ hF.out), (p6_ hF.out), (p7_ hF.out), (p8_ hF.out), (p9_ hF.out), (p10_ hF.out), (p11_ hF.out), (p12_ hF.out), (p13_ hF.out), (fun _ => rfl), (p15_ hF.out), (p16_ hF.out), (p17_ hF.out), (p18_ hF.out), (p19_ hF.out), (p20_ hF.out), (p21_ hF.out), (p22_ hF.out), (p23_ hF.out), (p24_ hF.out), (p25_ hF.out), (p26_ hF.out), (p27_ hF.out), (p28_ hF.out), (p29_ hF.out), (p30_ hF.out), (p31_ hF.out), (p32_ hF.out), (p33_ hF.out), (q34_ hF.out)⟩
            refine StepsF.cons (o := _) rfl (ws := [13]) (by kernel_rfl) (by decide) (fun d s b w hF hd hw K_ hK => ?_) ?_
            · have hB : Below W0.heap.size W0 w := (p0_ hF.out)
              have e13 : s 35 = .int .i64 m := (p14_ hF.out) (hw 13 (by decide))
              dsimp only
              go_simp
              exact hK.out (ups (ups s 35 (.int .i64 m)) 36 (.int .i64 ((m + 1 : Nat) : Int))) b _ ⟨hB, (p1_ hF.out), (p2_ hF.out), (p3_ hF.out), (p4_ hF.out), (p5_ hF.out), (p6_ hF.out), (p7_ hF.out), (p8_ hF.out), (p9_ hF.out), (p10_ hF.out), (p11_ hF.out), (p12_ hF.out), (p13_ hF.out), (fun _ => rfl), (fun _ => rfl), (p16_ hF.out), (p17_ hF.out), (p18_ hF.out), (p19_ hF.out), (p20_ hF.out), (p21_ hF.out), (p22_ hF.out), (p23_ hF.out), (p24_ hF.out), (p25_ hF.out), (p26_ hF.out), (p27_ hF.out), (p28_ hF.out), (p29_ hF.out), (p30_ hF.out), (p31_ hF.out), (p32_ hF.out), (p33_ hF.out), (q34_ hF.out)⟩
            refine StepsF.cons (o := _) rfl (ws := [11, 12, 14, 10]) (by kernel_rfl) (by decide) (fun d s b w hF hd hw K_ hK => ?_) ?_
            · have hB : Below W0.heap.size W0 w := (p0_ hF.out)
              have e10 : s 32 = (.agg #[.int .i64 b0, .int .i64 b1, .int .i64 b2]) := (p11_ hF.out) (hw 10 (by decide))
              have e11 : s 33 = (.agg #[.int .i64 (sd : Int), .slice q n c]) := (p12_ hF.out) (hw 11 (by decide))
              have e12 : s 34 = .int .i64 x := (p13_ hF.out) (hw 12 (by decide))
              have e14 : s 36 = .int .i64 ((m + 1 : Nat) : Int) := (p15_ hF.out) (hw 14 (by decide))
              dsimp only
              go_simp
              go_at_call 38
              refine (Tc.out _ (HM0.out.later hB)).mono ?_
              rintro e w1 ⟨rfl, hb⟩
              exact hK.out (ups (ups (ups (ups (ups s 32 ((.agg #[.int .i64 b0, .int .i64 b1, .int .i64 b2]))) 33 ((.agg #[.int .i64 (sd : Int), .slice q n c]))) 34 (.int .i64 x)) 36 (.int .i64 ((m + 1 : Nat) : Int))) 37 ((.agg #[.int .i64 c0, .int .i64 c1, .int .i64 c2]))) b _ ⟨(Below.go hB hb), (p1_ hF.out), (p2_ hF.out), (p3_ hF.out), (p4_ hF.out), (p5_ hF.out), (p6_ hF.out), (p7_ hF.out), (p8_ hF.out), (p9_ hF.out), (p10_ hF.out), (fun _ => rfl), (fun _ => rfl), (fun _ => rfl), (p14_ hF.out), (fun _ => rfl), (fun _ => rfl), (p17_ hF.out), (p18_ hF.out), (p19_ hF.out), (p20_ hF.out), (p21_ hF.out), (p22_ hF.out), (p23_ hF.out), (p24_ hF.out), (p25_ hF.out), (fun h0 h1 => ((p26_ hF.out) h0 h1).later hb), (fun h0 => row_later ((p27_ hF.out) h0) hb), (fun h0 => row_later ((p28_ hF.out) h0) hb), (p29_ hF.out), (fun h0 => ((p30_ hF.out) h0).later hb), (fun h0 => ((p31_ hF.out) h0).later hb), (p32_ hF.out), (p33_ hF.out), ((Nat.le_trans ((q34_ hF.out)) (hb).size))⟩
            refine StepsF.cons (o := _) rfl (ws := []) (by kernel_rfl) (by decide) (fun d s b w hF hd hw K_ hK => ?_) ?_
            · have hB : Below W0.heap.size W0 w := (p0_ hF.out)
              dsimp only
              have oxa := HA.out.later hB
              have xa0 := oxa.at 0 _ rfl
              have xa1 := oxa.at 1 _ rfl
              clear oxa
              go_simp
              exact hK.out (ups s 38 ((.agg #[.int .i64 (sd : Int), .slice q n c]))) b _ ⟨hB, (p1_ hF.out), (p2_ hF.out), (p3_ hF.out), (p4_ hF.out), (p5_ hF.out), (p6_ hF.out), (p7_ hF.out), (p8_ hF.out), (p9_ hF.out), (p10_ hF.out), (p11_ hF.out), (p12_ hF.out), (p13_ hF.out), (p14_ hF.out), (p15_ hF.out), (p16_ hF.out), (fun _ => rfl), (p18_ hF.out), (p19_ hF.out), (p20_ hF.out), (p21_ hF.out), (p22_ hF.out), (p23_ hF.out), (p24_ hF.out), (p25_ hF.out), (p26_ hF.out), (p27_ hF.out), (p28_ hF.out), (p29_ hF.out), (p30_ hF.out), (p31_ hF.out), (p32_ hF.out), (p33_ hF.out), (q34_ hF.out)⟩
            refine StepsF.cons (o := _) rfl (ws := []) (by kernel_rfl) (by decide) (fun d s b w hF hd hw K_ hK => ?_) ?_
            · have hB : Below W0.heap.size W0 w := (p0_ hF.out)
              dsimp only
              go_simp
              exact hK.out (ups s 39 (.int .i64 x)) b _ ⟨hB, (p1_ hF.out), (p2_ hF.out), (p3_ hF.out), (p4_ hF.out), (p5_ hF.out), (p6_ hF.out), (p7_ hF.out), (p8_ hF.out), (p9_ hF.out), (p10_ hF.out), (p11_ hF.out), (p12_ hF.out), (p13_ hF.out), (p14_ hF.out), (p15_ hF.out), (p16_ hF.out), (p17_ hF.out), (fun _ => rfl), (p19_ hF.out), (p20_ hF.out), (p21_ hF.out), (p22_ hF.out), (p23_ hF.out), (p24_ hF.out), (p25_ hF.out), (p26_ hF.out), (p27_ hF.out), (p28_ hF.out), (p29_ hF.out), (p30_ hF.out), (p31_ hF.out), (p32_ hF.out), (p33_ hF.out), (q34_ hF.out)⟩
            refine StepsF.cons (o := _) rfl (ws := [17]) (by kernel_rfl) (by decide) (fun d s b w hF hd hw K_ hK => ?_) ?_
            · have hB : Below W0.heap.size W0 w := (p0_ hF.out)
              have e17 : s 39 = .int .i64 x := (p18_ hF.out) (hw 17 (by decide))
              dsimp only
              go_simp
              exact hK.out (ups (ups s 39 (.int .i64 x)) 40 (.int .i64 ((x + 1 : Nat) : Int))) b _ ⟨hB, (p1_ hF.out), (p2_ hF.out), (p3_ hF.out), (p4_ hF.out), (p5_ hF.out), (p6_ hF.out), (p7_ hF.out), (p8_ hF.out), (p9_ hF.out), (p10_ hF.out), (p11_ hF.out), (p12_ hF.out), (p13_ hF.out), (p14_ hF.out), (p15_ hF.out), (p16_ hF.out), (p17_ hF.out), (fun _ => rfl), (fun _ => rfl), (p20_ hF.out), (p21_ hF.out), (p22_ hF.out), (p23_ hF.out), (p24_ hF.out), (p25_ hF.out), (p26_ hF.out), (p27_ hF.out), (p28_ hF.out), (p29_ hF.out), (p30_ hF.out), (p31_ hF.out), (p32_ hF.out), (p33_ hF.out), (q34_ hF.out)⟩
            refine StepsF.cons (o := _) rfl (ws := []) (by kernel_rfl) (by decide) (fun d s b w hF hd hw K_ hK => ?_) ?_
            · have hB : Below W0.heap.size W0 w := (p0_ hF.out)
              dsimp only
              go_simp
              exact hK.out (ups s 41 (.int .i64 m)) b _ ⟨hB, (p1_ hF.out), (p2_ hF.out), (p3_ hF.out), (p4_ hF.out), (p5_ hF.out), (p6_ hF.out), (p7_ hF.out), (p8_ hF.out), (p9_ hF.out), (p10_ hF.out), (p11_ hF.out), (p12_ hF.out), (p13_ hF.out), (p14_ hF.out), (p15_ hF.out), (p16_ hF.out), (p17_ hF.out), (p18_ hF.out), (p19_ hF.out), (fun _ => rfl), (p21_ hF.out), (p22_ hF.out), (p23_ hF.out), (p24_ hF.out), (p25_ hF.out), (p26_ hF.out), (p27_ hF.out), (p28_ hF.out), (p29_ hF.out), (p30_ hF.out), (p31_ hF.out), (p32_ hF.out), (p33_ hF.out), (q34_ hF.out)⟩
            refine StepsF.cons (o := _) rfl (ws := [19]) (by kernel_rfl) (by decide) (fun d s b w hF hd hw K_ hK => ?_) ?_
            · have hB : Below W0.heap.size W0 w := (p0_ hF.out)
              have e19 : s 41 = .int .i64 m := (p20_ hF.out) (hw 19 (by decide))
              dsimp only
              go_simp
              exact hK.out (ups (ups s 41 (.int .i64 m)) 42 (.int .i64 ((m + 1 : Nat) : Int))) b _ ⟨hB, (p1_ hF.out), (p2_ hF.out), (p3_ hF.out), (p4_ hF.out), (p5_ hF.out), (p6_ hF.out), (p7_ hF.out), (p8_ hF.out), (p9_ hF.out), (p10_ hF.out), (p11_ hF.out), (p12_ hF.out), (p13_ hF.out), (p14_ hF.out), (p15_ hF.out), (p16_ hF.out), (p17_ hF.out), (p18_ hF.out), (p19_ hF.out), (fun _ => rfl), (fun _ => rfl), (p22_ hF.out), (p23_ hF.out), (p24_ hF.out), (p25_ hF.out), (p26_ hF.out), (p27_ hF.out), (p28_ hF.out), (p29_ hF.out), (p30_ hF.out), (p31_ hF.out), (p32_ hF.out), (p33_ hF.out), (q34_ hF.out)⟩
            refine StepsF.cons (o := _) rfl (ws := [16, 18, 20, 15]) (by kernel_rfl) (by decide) (fun d s b w hF hd hw K_ hK => ?_) ?_
            · have hB : Below W0.heap.size W0 w := (p0_ hF.out)
              have e15 : s 37 = (.agg #[.int .i64 c0, .int .i64 c1, .int .i64 c2]) := (p16_ hF.out) (hw 15 (by decide))
              have e16 : s 38 = (.agg #[.int .i64 (sd : Int), .slice q n c]) := (p17_ hF.out) (hw 16 (by decide))
              have e18 : s 40 = .int .i64 ((x + 1 : Nat) : Int) := (p19_ hF.out) (hw 18 (by decide))
              have e20 : s 42 = .int .i64 ((m + 1 : Nat) : Int) := (p21_ hF.out) (hw 20 (by decide))
              dsimp only
              go_simp
              go_at_call 38
              refine (Td.out _ (HM0.out.later hB)).mono ?_
              rintro e w1 ⟨rfl, hb⟩
              exact hK.out (ups (ups (ups (ups (ups s 37 ((.agg #[.int .i64 c0, .int .i64 c1, .int .i64 c2]))) 38 ((.agg #[.int .i64 (sd : Int), .slice q n c]))) 40 (.int .i64 ((x + 1 : Nat) : Int))) 42 (.int .i64 ((m + 1 : Nat) : Int))) 43 ((.agg #[.int .i64 d0, .int .i64 d1, .int .i64 d2]))) b _ ⟨(Below.go hB hb), (p1_ hF.out), (p2_ hF.out), (p3_ hF.out), (p4_ hF.out), (p5_ hF.out), (p6_ hF.out), (p7_ hF.out), (p8_ hF.out), (p9_ hF.out), (p10_ hF.out), (p11_ hF.out), (p12_ hF.out), (p13_ hF.out), (p14_ hF.out), (p15_ hF.out), (fun _ => rfl), (fun _ => rfl), (p18_ hF.out), (fun _ => rfl), (p20_ hF.out), (fun _ => rfl), (fun _ => rfl), (p23_ hF.out), (p24_ hF.out), (p25_ hF.out), (fun h0 h1 => ((p26_ hF.out) h0 h1).later hb), (fun h0 => row_later ((p27_ hF.out) h0) hb), (fun h0 => row_later ((p28_ hF.out) h0) hb), (p29_ hF.out), (fun h0 => ((p30_ hF.out) h0).later hb), (fun h0 => ((p31_ hF.out) h0).later hb), (p32_ hF.out), (p33_ hF.out), ((Nat.le_trans ((q34_ hF.out)) (hb).size))⟩
            refine StepsF.cons (o := _) rfl (ws := [5, 10, 15, 21]) (by kernel_rfl) (by decide) (fun d s b w hF hd hw K_ hK => ?_) ?_
            · have hB : Below W0.heap.size W0 w := (p0_ hF.out)
              have e5 : s 27 = (.agg #[.int .i64 a0, .int .i64 a1, .int .i64 a2]) := (p6_ hF.out) (hw 5 (by decide))
              have e10 : s 32 = (.agg #[.int .i64 b0, .int .i64 b1, .int .i64 b2]) := (p11_ hF.out) (hw 10 (by decide))
              have e15 : s 37 = (.agg #[.int .i64 c0, .int .i64 c1, .int .i64 c2]) := (p16_ hF.out) (hw 15 (by decide))
              have e21 : s 43 = (.agg #[.int .i64 d0, .int .i64 d1, .int .i64 d2]) := (p22_ hF.out) (hw 21 (by decide))
              dsimp only
              go_simp
              exact hK.out (ups (ups (ups (ups (ups s 27 ((.agg #[.int .i64 a0, .int .i64 a1, .int .i64 a2]))) 32 ((.agg #[.int .i64 b0, .int .i64 b1, .int .i64 b2]))) 37 ((.agg #[.int .i64 c0, .int .i64 c1, .int .i64 c2]))) 43 ((.agg #[.int .i64 d0, .int .i64 d1, .int .i64 d2]))) 44 ((.agg #[.int .i64 a0, .int .i64 a1, .int .i64 a2, .int .i64 b0, .int .i64 b1, .int .i64 b2, .int .i64 c0, .int .i64 c1, .int .i64 c2, .int .i64 d0, .int .i64 d1, .int .i64 d2]))) b _ ⟨hB, (p1_ hF.out), (p2_ hF.out), (p3_ hF.out), (p4_ hF.out), (p5_ hF.out), (fun _ => rfl), (p7_ hF.out), (p8_ hF.out), (p9_ hF.out), (p10_ hF.out), (fun _ => rfl), (p12_ hF.out), (p13_ hF.out), (p14_ hF.out), (p15_ hF.out), (fun _ => rfl), (p17_ hF.out), (p18_ hF.out), (p19_ hF.out), (p20_ hF.out), (p21_ hF.out), (fun _ => rfl), (fun _ => rfl), (p24_ hF.out), (p25_ hF.out), (p26_ hF.out), (p27_ hF.out), (p28_ hF.out), (p29_ hF.out), (p30_ hF.out), (p31_ hF.out), (p32_ hF.out), (p33_ hF.out), (q34_ hF.out)⟩
            refine StepsF.cons (o := _) rfl (ws := [22, 21]) (by kernel_rfl) (by decide) (fun d s b w hF hd hw K_ hK => ?_) ?_
            · have hB : Below W0.heap.size W0 w := (p0_ hF.out)
              have e21 : s 43 = (.agg #[.int .i64 d0, .int .i64 d1, .int .i64 d2]) := (p22_ hF.out) (hw 21 (by decide))
              have e22 : s 44 = (.agg #[.int .i64 a0, .int .i64 a1, .int .i64 a2, .int .i64 b0, .int .i64 b1, .int .i64 b2, .int .i64 c0, .int .i64 c1, .int .i64 c2, .int .i64 d0, .int .i64 d1, .int .i64 d2]) := (p23_ hF.out) (hw 22 (by decide))
              dsimp only
              go_simp
              go_at_call 51
              refine (MN.out _).mono ?_
              rintro e w1 ⟨rfl, hb⟩
              exact hK.out (ups (ups (ups s 43 ((.agg #[.int .i64 d0, .int .i64 d1, .int .i64 d2]))) 44 ((.agg #[.int .i64 a0, .int .i64 a1, .int .i64 a2, .int .i64 b0, .int .i64 b1, .int .i64 b2, .int .i64 c0, .int .i64 c1, .int .i64 c2, .int .i64 d0, .int .i64 d1, .int .i64 d2]))) 45 ((.agg #[.int .i64 g0, .int .i64 g1, .int .i64 g2]))) b _ ⟨(Below.go hB hb), (p1_ hF.out), (p2_ hF.out), (p3_ hF.out), (p4_ hF.out), (p5_ hF.out), (p6_ hF.out), (p7_ hF.out), (p8_ hF.out), (p9_ hF.out), (p10_ hF.out), (p11_ hF.out), (p12_ hF.out), (p13_ hF.out), (p14_ hF.out), (p15_ hF.out), (p16_ hF.out), (p17_ hF.out), (p18_ hF.out), (p19_ hF.out), (p20_ hF.out), (p21_ hF.out), (fun _ => rfl), (fun _ => rfl), (fun _ => rfl), (p25_ hF.out), (fun h0 h1 => ((p26_ hF.out) h0 h1).later hb), (fun h0 => row_later ((p27_ hF.out) h0) hb), (fun h0 => row_later ((p28_ hF.out) h0) hb), (p29_ hF.out), (fun h0 => ((p30_ hF.out) h0).later hb), (fun h0 => ((p31_ hF.out) h0).later hb), (p32_ hF.out), (p33_ hF.out), ((Nat.le_trans ((q34_ hF.out)) (hb).size))⟩
            refine StepsF.cons (o := _) rfl (ws := [23]) (by kernel_rfl) (by decide) (fun d s b w hF hd hw K_ hK => ?_) ?_
            · have hB : Below W0.heap.size W0 w := (p0_ hF.out)
              have e23 : s 45 = (.agg #[.int .i64 g0, .int .i64 g1, .int .i64 g2]) := (p24_ hF.out) (hw 23 (by decide))
              dsimp only
              go_simp
              exact hK.out (ups (ups s 45 ((.agg #[.int .i64 g0, .int .i64 g1, .int .i64 g2]))) 46 (.slice (some ⟨w.heap.size, 0, none⟩) 1 1)) (ups b 24 w.heap.size) _ ⟨(hB.alloc hB.size _), (p1_ hF.out), (p2_ hF.out), (p3_ hF.out), (p4_ hF.out), (p5_ hF.out), (p6_ hF.out), (p7_ hF.out), (p8_ hF.out), (p9_ hF.out), (p10_ hF.out), (p11_ hF.out), (p12_ hF.out), (p13_ hF.out), (p14_ hF.out), (p15_ hF.out), (p16_ hF.out), (p17_ hF.out), (p18_ hF.out), (p19_ hF.out), (p20_ hF.out), (p21_ hF.out), (p22_ hF.out), (p23_ hF.out), (fun _ => rfl), (fun _ => ⟨rfl, hB.size⟩), (fun _ _ => Own.newAt rfl), (fun h0 => row_later ((p27_ hF.out) h0) (Below.al (Below.refl _ _))), (fun h0 => row_later ((p28_ hF.out) h0) (Below.al (Below.refl _ _))), (p29_ hF.out), (fun h0 => ((p30_ hF.out) h0).alloc), (fun h0 => ((p31_ hF.out) h0).alloc), (p32_ hF.out), (p33_ hF.out), ((Nat.le_trans ((q34_ hF.out)) ((Below.al (Below.refl _ _))).size))⟩
            refine StepsF.cons (o := _) rfl (ws := [1, 24, 23]) (by kernel_rfl) (by decide) (fun d s b w hF hd hw K_ hK => ?_) ?_
            · have hB : Below W0.heap.size W0 w := (p0_ hF.out)
              have e1 : s 23 = (.slice p3 t c3) := (p2_ hF.out) (hw 1 (by decide))
              have e23 : s 45 = (.agg #[.int .i64 g0, .int .i64 g1, .int .i64 g2]) := (p24_ hF.out) (hw 23 (by decide))
              have e24 : s 46 = .slice (some ⟨(b 24), 0, none⟩) 1 1 := ((p25_ hF.out) (hw 24 (by decide))).1
              have le24 : W0.heap.size ≤ b 24 := ((p25_ hF.out) (hw 24 (by decide))).2
              have hi := HI.out
              have hz0 := HZ0.out
              have hz1 := HZ1.out
              have hz2 := HZ2.out
              have go := (p27_ hF.out) hd; have nb := (p26_ hF.out) (hw 24 (by decide)) hd
              refine step_append_to rfl (.tmp 23) (.tmp 46) 22 rfl 50 i0 (.agg #[.int .i64 0, .int .i64 0, .int .i64 0]) 3 24 Try.underlying22 hi hz0 hz1 hz2 rfl (by decide) W1.heap.size (.slice p3 t c3) t (nums .i64 G (t * 3)) ?a1 go ⟨b 24, 0, none⟩ 1 1 [.int .i64 g0, .int .i64 g1, .int .i64 g2] ?a2 rfl nb.news ?c2 ?c3 ?c4 (q34_ hF.out) ?_
              case a1 => exact e1
              case a2 => exact e24
              case c2 => simp [Value.oneCell']
              case c3 => unfold maxLen; omega
              case c4 => omega
              intro v' w' hown hg
              exact hK.out (ups s 47 (v')) b _ ⟨(Below.gro hB hg go RB.out), (p1_ hF.out), (p2_ hF.out), (p3_ hF.out), (p4_ hF.out), (p5_ hF.out), (p6_ hF.out), (p7_ hF.out), (p8_ hF.out), (p9_ hF.out), (p10_ hF.out), (p11_ hF.out), (p12_ hF.out), (p13_ hF.out), (p14_ hF.out), (p15_ hF.out), (p16_ hF.out), (p17_ hF.out), (p18_ hF.out), (p19_ hF.out), (p20_ hF.out), (p21_ hF.out), (p22_ hF.out), (p23_ hF.out), (p24_ hF.out), (p25_ hF.out), (fun _ h => nomatch h), (fun h => nomatch h), (fun _ => hown), (p29_ hF.out), (fun h0 => ((p30_ hF.out) h0).grown hg (row_ne go RL.out)), (fun h => absurd ((p33_ hF.out) h) (by simp [hd])), (p32_ hF.out), (fun _ => rfl), ((Nat.le_trans ((q34_ hF.out)) hg.size))⟩
            refine StepsF.cons (o := _) rfl (ws := [0, 1, 2, 3, 4, 5, 6, 7, 8, 9, 10, 11, 12, 13, 14, 15, 16, 17, 18, 19, 20, 21, 22, 23, 24, 25]) (by kernel_rfl) (by decide) (fun d s b w hF hd hw K_ hK => ?_) ?_
            · have hB : Below W0.heap.size W0 w := (p0_ hF.out)
              have e0 : s 22 = .pointer (some ⟨R, 1, none⟩) := (p1_ hF.out) (hw 0 (by decide))
              have e1 : s 23 = (.slice p3 t c3) := (p2_ hF.out) (hw 1 (by decide))
              have e2 : s 24 = (.agg #[.int .i64 (sd : Int), .slice q n c]) := (p3_ hF.out) (hw 2 (by decide))
              have e3 : s 25 = .int .i64 x := (p4_ hF.out) (hw 3 (by decide))
              have e4 : s 26 = .int .i64 m := (p5_ hF.out) (hw 4 (by decide))
              have e5 : s 27 = (.agg #[.int .i64 a0, .int .i64 a1, .int .i64 a2]) := (p6_ hF.out) (hw 5 (by decide))
              have e6 : s 28 = (.agg #[.int .i64 (sd : Int), .slice q n c]) := (p7_ hF.out) (hw 6 (by decide))
              have e7 : s 29 = .int .i64 x := (p8_ hF.out) (hw 7 (by decide))
              have e8 : s 30 = .int .i64 ((x + 1 : Nat) : Int) := (p9_ hF.out) (hw 8 (by decide))
              have e9 : s 31 = .int .i64 m := (p10_ hF.out) (hw 9 (by decide))
              have e10 : s 32 = (.agg #[.int .i64 b0, .int .i64 b1, .int .i64 b2]) := (p11_ hF.out) (hw 10 (by decide))
              have e11 : s 33 = (.agg #[.int .i64 (sd : Int), .slice q n c]) := (p12_ hF.out) (hw 11 (by decide))
              have e12 : s 34 = .int .i64 x := (p13_ hF.out) (hw 12 (by decide))
              have e13 : s 35 = .int .i64 m := (p14_ hF.out) (hw 13 (by decide))
              have e14 : s 36 = .int .i64 ((m + 1 : Nat) : Int) := (p15_ hF.out) (hw 14 (by decide))
              have e15 : s 37 = (.agg #[.int .i64 c0, .int .i64 c1, .int .i64 c2]) := (p16_ hF.out) (hw 15 (by decide))
              have e16 : s 38 = (.agg #[.int .i64 (sd : Int), .slice q n c]) := (p17_ hF.out) (hw 16 (by decide))
              have e17 : s 39 = .int .i64 x := (p18_ hF.out) (hw 17 (by decide))
              have e18 : s 40 = .int .i64 ((x + 1 : Nat) : Int) := (p19_ hF.out) (hw 18 (by decide))
              have e19 : s 41 = .int .i64 m := (p20_ hF.out) (hw 19 (by decide))
              have e20 : s 42 = .int .i64 ((m + 1 : Nat) : Int) := (p21_ hF.out) (hw 20 (by decide))
              have e21 : s 43 = (.agg #[.int .i64 d0, .int .i64 d1, .int .i64 d2]) := (p22_ hF.out) (hw 21 (by decide))
              have e22 : s 44 = (.agg #[.int .i64 a0, .int .i64 a1, .int .i64 a2, .int .i64 b0, .int .i64 b1, .int .i64 b2, .int .i64 c0, .int .i64 c1, .int .i64 c2, .int .i64 d0, .int .i64 d1, .int .i64 d2]) := (p23_ hF.out) (hw 22 (by decide))
              have e23 : s 45 = (.agg #[.int .i64 g0, .int .i64 g1, .int .i64 g2]) := (p24_ hF.out) (hw 23 (by decide))
              have e24 : s 46 = .slice (some ⟨(b 24), 0, none⟩) 1 1 := ((p25_ hF.out) (hw 24 (by decide))).1
              have le24 : W0.heap.size ≤ b 24 := ((p25_ hF.out) (hw 24 (by decide))).2
              dsimp only
              go_simp
              exact hK.out (ups (ups (ups (ups (ups (ups (ups (ups (ups (ups (ups (ups (ups (ups (ups (ups (ups (ups (ups (ups (ups (ups (ups (ups (ups (ups s 22 (.pointer (some ⟨R, 1, none⟩))) 23 ((.slice p3 t c3))) 24 ((.agg #[.int .i64 (sd : Int), .slice q n c]))) 25 (.int .i64 x)) 26 (.int .i64 m)) 27 ((.agg #[.int .i64 a0, .int .i64 a1, .int .i64 a2]))) 28 ((.agg #[.int .i64 (sd : Int), .slice q n c]))) 29 (.int .i64 x)) 30 (.int .i64 ((x + 1 : Nat) : Int))) 31 (.int .i64 m)) 32 ((.agg #[.int .i64 b0, .int .i64 b1, .int .i64 b2]))) 33 ((.agg #[.int .i64 (sd : Int), .slice q n c]))) 34 (.int .i64 x)) 35 (.int .i64 m)) 36 (.int .i64 ((m + 1 : Nat) : Int))) 37 ((.agg #[.int .i64 c0, .int .i64 c1, .int .i64 c2]))) 38 ((.agg #[.int .i64 (sd : Int), .slice q n c]))) 39 (.int .i64 x)) 40 (.int .i64 ((x + 1 : Nat) : Int))) 41 (.int .i64 m)) 42 (.int .i64 ((m + 1 : Nat) : Int))) 43 ((.agg #[.int .i64 d0, .int .i64 d1, .int .i64 d2]))) 44 ((.agg #[.int .i64 a0, .int .i64 a1, .int .i64 a2, .int .i64 b0, .int .i64 b1, .int .i64 b2, .int .i64 c0, .int .i64 c1, .int .i64 c2, .int .i64 d0, .int .i64 d1, .int .i64 d2]))) 45 ((.agg #[.int .i64 g0, .int .i64 g1, .int .i64 g2]))) 46 (.slice (some ⟨(b 24), 0, none⟩) 1 1)) 48 (.pointer (some ⟨R, 1, none⟩))) b _ ⟨hB, (fun _ => rfl), (fun _ => rfl), (fun _ => rfl), (fun _ => rfl), (fun _ => rfl), (fun _ => rfl), (fun _ => rfl), (fun _ => rfl), (fun _ => rfl), (fun _ => rfl), (fun _ => rfl), (fun _ => rfl), (fun _ => rfl), (fun _ => rfl), (fun _ => rfl), (fun _ => rfl), (fun _ => rfl), (fun _ => rfl), (fun _ => rfl), (fun _ => rfl), (fun _ => rfl), (fun _ => rfl), (fun _ => rfl), (fun _ => rfl), (fun _ => ⟨rfl, le24⟩), (p26_ hF.out), (p27_ hF.out), (p28_ hF.out), (fun _ => rfl), (p30_ hF.out), (p31_ hF.out), (p32_ hF.out), (p33_ hF.out), (q34_ hF.out)⟩
            refine StepsF.cons (o := _) rfl (ws := [26, 25, 25, 0, 1, 2, 3, 4, 5, 6, 7, 8, 9, 10, 11, 12, 13, 14, 15, 16, 17, 18, 19, 20, 21, 22, 23, 24, 25]) (by kernel_rfl) (by decide) (fun d s b w hF hd hw K_ hK => ?_) ?_
            · have hB : Below W0.heap.size W0 w := (p0_ hF.out)
              have e0 : s 22 = .pointer (some ⟨R, 1, none⟩) := (p1_ hF.out) (hw 0 (by decide))
              have e1 : s 23 = (.slice p3 t c3) := (p2_ hF.out) (hw 1 (by decide))
              have e2 : s 24 = (.agg #[.int .i64 (sd : Int), .slice q n c]) := (p3_ hF.out) (hw 2 (by decide))
              have e3 : s 25 = .int .i64 x := (p4_ hF.out) (hw 3 (by decide))
              have e4 : s 26 = .int .i64 m := (p5_ hF.out) (hw 4 (by decide))
              have e5 : s 27 = (.agg #[.int .i64 a0, .int .i64 a1, .int .i64 a2]) := (p6_ hF.out) (hw 5 (by decide))
              have e6 : s 28 = (.agg #[.int .i64 (sd : Int), .slice q n c]) := (p7_ hF.out) (hw 6 (by decide))
              have e7 : s 29 = .int .i64 x := (p8_ hF.out) (hw 7 (by decide))
              have e8 : s 30 = .int .i64 ((x + 1 : Nat) : Int) := (p9_ hF.out) (hw 8 (by decide))
              have e9 : s 31 = .int .i64 m := (p10_ hF.out) (hw 9 (by decide))
              have e10 : s 32 = (.agg #[.int .i64 b0, .int .i64 b1, .int .i64 b2]) := (p11_ hF.out) (hw 10 (by decide))
              have e11 : s 33 = (.agg #[.int .i64 (sd : Int), .slice q n c]) := (p12_ hF.out) (hw 11 (by decide))
              have e12 : s 34 = .int .i64 x := (p13_ hF.out) (hw 12 (by decide))
              have e13 : s 35 = .int .i64 m := (p14_ hF.out) (hw 13 (by decide))
              have e14 : s 36 = .int .i64 ((m + 1 : Nat) : Int) := (p15_ hF.out) (hw 14 (by decide))
              have e15 : s 37 = (.agg #[.int .i64 c0, .int .i64 c1, .int .i64 c2]) := (p16_ hF.out) (hw 15 (by decide))
              have e16 : s 38 = (.agg #[.int .i64 (sd : Int), .slice q n c]) := (p17_ hF.out) (hw 16 (by decide))
              have e17 : s 39 = .int .i64 x := (p18_ hF.out) (hw 17 (by decide))
              have e18 : s 40 = .int .i64 ((x + 1 : Nat) : Int) := (p19_ hF.out) (hw 18 (by decide))
              have e19 : s 41 = .int .i64 m := (p20_ hF.out) (hw 19 (by decide))
              have e20 : s 42 = .int .i64 ((m + 1 : Nat) : Int) := (p21_ hF.out) (hw 20 (by decide))
              have e21 : s 43 = (.agg #[.int .i64 d0, .int .i64 d1, .int .i64 d2]) := (p22_ hF.out) (hw 21 (by decide))
              have e22 : s 44 = (.agg #[.int .i64 a0, .int .i64 a1, .int .i64 a2, .int .i64 b0, .int .i64 b1, .int .i64 b2, .int .i64 c0, .int .i64 c1, .int .i64 c2, .int .i64 d0, .int .i64 d1, .int .i64 d2]) := (p23_ hF.out) (hw 22 (by decide))
              have e23 : s 45 = (.agg #[.int .i64 g0, .int .i64 g1, .int .i64 g2]) := (p24_ hF.out) (hw 23 (by decide))
              have e24 : s 46 = .slice (some ⟨(b 24), 0, none⟩) 1 1 := ((p25_ hF.out) (hw 24 (by decide))).1
              have le24 : W0.heap.size ≤ b 24 := ((p25_ hF.out) (hw 24 (by decide))).2
              have e26 : s 48 = .pointer (some ⟨R, 1, none⟩) := (p29_ hF.out) (hw 26 (by decide))
              dsimp only
              have rr := ((p28_ hF.out) (hw 25 (by decide)))
              obtain ⟨pp, cc, e47, _⟩ := row_form rr
              rw [e47] at rr
              have oX := (p30_ hF.out) hd
              have fr := oX.ok 1 (by simp)
              have ce := oX.at 1 _ rfl
              go_simp
              exact hK.out (ups (ups (ups (ups (ups (ups (ups (ups (ups (ups (ups (ups (ups (ups (ups (ups (ups (ups (ups (ups (ups (ups (ups (ups (ups (ups (ups s 22 (.pointer (some ⟨R, 1, none⟩))) 23 ((.slice p3 t c3))) 24 ((.agg #[.int .i64 (sd : Int), .slice q n c]))) 25 (.int .i64 x)) 26 (.int .i64 m)) 27 ((.agg #[.int .i64 a0, .int .i64 a1, .int .i64 a2]))) 28 ((.agg #[.int .i64 (sd : Int), .slice q n c]))) 29 (.int .i64 x)) 30 (.int .i64 ((x + 1 : Nat) : Int))) 31 (.int .i64 m)) 32 ((.agg #[.int .i64 b0, .int .i64 b1, .int .i64 b2]))) 33 ((.agg #[.int .i64 (sd : Int), .slice q n c]))) 34 (.int .i64 x)) 35 (.int .i64 m)) 36 (.int .i64 ((m + 1 : Nat) : Int))) 37 ((.agg #[.int .i64 c0, .int .i64 c1, .int .i64 c2]))) 38 ((.agg #[.int .i64 (sd : Int), .slice q n c]))) 39 (.int .i64 x)) 40 (.int .i64 ((x + 1 : Nat) : Int))) 41 (.int .i64 m)) 42 (.int .i64 ((m + 1 : Nat) : Int))) 43 ((.agg #[.int .i64 d0, .int .i64 d1, .int .i64 d2]))) 44 ((.agg #[.int .i64 a0, .int .i64 a1, .int .i64 a2, .int .i64 b0, .int .i64 b1, .int .i64 b2, .int .i64 c0, .int .i64 c1, .int .i64 c2, .int .i64 d0, .int .i64 d1, .int .i64 d2]))) 45 ((.agg #[.int .i64 g0, .int .i64 g1, .int .i64 g2]))) 46 (.slice (some ⟨(b 24), 0, none⟩) 1 1)) 48 (.pointer (some ⟨R, 1, none⟩))) 47 ((.slice pp (t + 1) cc))) b _ ⟨(Below.setCells hB RW.out [.slice pp (t + 1) cc] 1), (fun _ => rfl), (fun _ => rfl), (fun _ => rfl), (fun _ => rfl), (fun _ => rfl), (fun _ => rfl), (fun _ => rfl), (fun _ => rfl), (fun _ => rfl), (fun _ => rfl), (fun _ => rfl), (fun _ => rfl), (fun _ => rfl), (fun _ => rfl), (fun _ => rfl), (fun _ => rfl), (fun _ => rfl), (fun _ => rfl), (fun _ => rfl), (fun _ => rfl), (fun _ => rfl), (fun _ => rfl), (fun _ => rfl), (fun _ => rfl), (fun _ => ⟨rfl, le24⟩), (fun _ h => absurd (hw 25 (by decide)) (by have h2 : d 25 = false := h; simp [h2])), (fun h => absurd (hw 25 (by decide)) (by have h2 : d 25 = false := h; simp [h2])), (fun _ => row_far rr (row_ne rr RL.out) 1 [.slice pp (t + 1) cc]), (fun _ => rfl), (fun h => nomatch h), (fun _ => (show Own R (over _ 1 [.slice pp (t + 1) cc]) _ from Own.part oX (by simp))), (fun _ => hw 1 (by decide)), (fun _ => hw 25 (by decide)), (by show W1.heap.size ≤ (w.setCells R 1 [.slice pp (t + 1) cc]).heap.size; rw [size_setCells]; exact (q34_ hF.out))⟩
            exact StepsF.nil
          intro d s b w2 hF hall
          replace hF := Lib.hid hF
          have hB : Below W0.heap.size W0 w2 := (p0_ hF.out)
          try dsimp only
          have e0 : s 22 = .pointer (some ⟨R, 1, none⟩) := (p1_ hF.out) (hall 0 (by decide))
          have e1 : s 23 = (.slice p3 t c3) := (p2_ hF.out) (hall 1 (by decide))
          have e2 : s 24 = (.agg #[.int .i64 (sd : Int), .slice q n c]) := (p3_ hF.out) (hall 2 (by decide))
          have e3 : s 25 = .int .i64 x := (p4_ hF.out) (hall 3 (by decide))
          have e4 : s 26 = .int .i64 m := (p5_ hF.out) (hall 4 (by decide))
          have e5 : s 27 = (.agg #[.int .i64 a0, .int .i64 a1, .int .i64 a2]) := (p6_ hF.out) (hall 5 (by decide))
          have e6 : s 28 = (.agg #[.int .i64 (sd : Int), .slice q n c]) := (p7_ hF.out) (hall 6 (by decide))
          have e7 : s 29 = .int .i64 x := (p8_ hF.out) (hall 7 (by decide))
          have e8 : s 30 = .int .i64 ((x + 1 : Nat) : Int) := (p9_ hF.out) (hall 8 (by decide))
          have e9 : s 31 = .int .i64 m := (p10_ hF.out) (hall 9 (by decide))
          have e10 : s 32 = (.agg #[.int .i64 b0, .int .i64 b1, .int .i64 b2]) := (p11_ hF.out) (hall 10 (by decide))
          have e11 : s 33 = (.agg #[.int .i64 (sd : Int), .slice q n c]) := (p12_ hF.out) (hall 11 (by decide))
          have e12 : s 34 = .int .i64 x := (p13_ hF.out) (hall 12 (by decide))
          have e13 : s 35 = .int .i64 m := (p14_ hF.out) (hall 13 (by decide))
          have e14 : s 36 = .int .i64 ((m + 1 : Nat) : Int) := (p15_ hF.out) (hall 14 (by decide))
          have e15 : s 37 = (.agg #[.int .i64 c0, .int .i64 c1, .int .i64 c2]) := (p16_ hF.out) (hall 15 (by decide))
          have e16 : s 38 = (.agg #[.int .i64 (sd : Int), .slice q n c]) := (p17_ hF.out) (hall 16 (by decide))
          have e17 : s 39 = .int .i64 x := (p18_ hF.out) (hall 17 (by decide))
          have e18 : s 40 = .int .i64 ((x + 1 : Nat) : Int) := (p19_ hF.out) (hall 18 (by decide))
          have e19 : s 41 = .int .i64 m := (p20_ hF.out) (hall 19 (by decide))
          have e20 : s 42 = .int .i64 ((m + 1 : Nat) : Int) := (p21_ hF.out) (hall 20 (by decide))
          have e21 : s 43 = (.agg #[.int .i64 d0, .int .i64 d1, .int .i64 d2]) := (p22_ hF.out) (hall 21 (by decide))
          have e22 : s 44 = (.agg #[.int .i64 a0, .int .i64 a1, .int .i64 a2, .int .i64 b0, .int .i64 b1, .int .i64 b2, .int .i64 c0, .int .i64 c1, .int .i64 c2, .int .i64 d0, .int .i64 d1, .int .i64 d2]) := (p23_ hF.out) (hall 22 (by decide))
          have e23 : s 45 = (.agg #[.int .i64 g0, .int .i64 g1, .int .i64 g2]) := (p24_ hF.out) (hall 23 (by decide))
          have e24 : s 46 = .slice (some ⟨(b 24), 0, none⟩) 1 1 := ((p25_ hF.out) (hall 24 (by decide))).1
          have le24 : W0.heap.size ≤ b 24 := ((p25_ hF.out) (hall 24 (by decide))).2
          have f25 := (p28_ hF.out) (hall 25 (by decide))
          have e26 : s 48 = .pointer (some ⟨R, 1, none⟩) := (p29_ hF.out) (hall 26 (by decide))
          have f27 := (p31_ hF.out) (hall 27 (by decide))
          have zs := (q34_ hF.out)
          rw [e0, e1, e2, e3, e4, e5, e6, e7, e8, e9, e10, e11, e12, e13, e14, e15, e16, e17, e18, e19, e20, e21, e22, e23, e24, e26]
          clear hall hF e0 e1 e2 e3 e4 e5 e6 e7 e8 e9 e10 e11 e12 e13 e14 e15 e16 e17 e18 e19 e20 e21 e22 e23 e24 e26
          obtain ⟨nw, hz⟩ : ∃ x, x = b 24 := ⟨_, rfl⟩
          rw [← hz] at le24 ⊢
          clear hz
          obtain ⟨u1, hz⟩ : ∃ x, x = s 47 := ⟨_, rfl⟩
          rw [← hz] at f25 f27 ⊢
          clear hz
          clear d s b
          obtain ⟨p4, c4, rfl, _⟩ := row_form f25
          rw [XS.out] at f25
          have HR_ := Lib.hid f27
          have ROW_ : Hid (w2.ownsRow W1.heap.size 50 3 (.slice p4 (t + 1) c4) (t + 1) (nums .i64 G ((t + 1) * 3))) := Lib.hid f25
          have HX_ := Lib.hid hB
          have HZ_ := Lib.hid zs
          clear f25 f27 hB zs HR ROW HX HZ le24 MN XS T64 Ta Tb Tc Td
          go_wp2_with (fail)
          go_roundw
          case rel => (first | exact ⟨i + 1, x + 2, t + 1, _, _, HLI.out, Lib.hid (by have := HXI.out; omega), Lib.hid (by have := HT.out; omega), by go_num, HR_, ROW_, HX_, HZ_⟩ | ((repeat apply Exists.intro); exact ⟨⟨i + 1, x + 2, t + 1, _, _, HLI.out, Lib.hid (by have := HXI.out; omega), Lib.hid (by have := HT.out; omega), by go_num, HR_, ROW_, HX_, HZ_⟩, rfl⟩))
          case measure => (simp [intOf]; omega)
        · obtain rfl : i = h := by omega
          obtain rfl : x = sd := by have := HXI.out; have := HE.out; omega
          clear hlt hi
          have A0 := (HA.out.later HX.out).at 0 _ rfl; have Al := (HA.out.later HX.out).lt
          go_wp2_with (fail)
          go_roundw
          case rel => (first | exact ⟨k + 1, m + 2, t, _, _, HLT.out, Lib.hid (by have := HMK.out; omega), Lib.hid (by rw [HT.out, Nat.succ_mul]), by go_num, HR, ROW, HX, HZ⟩ | ((repeat apply Exists.intro); exact ⟨⟨k + 1, m + 2, t, _, _, HLT.out, Lib.hid (by have := HMK.out; omega), Lib.hid (by rw [HT.out, Nat.succ_mul]), by go_num, HR, ROW, HX, HZ⟩, rfl⟩))
          case measure => (simp [intOf]; omega)
    · obtain rfl : k = h := by omega
      obtain rfl : m = sd := by have := HMK.out; have := HE.out; omega
      obtain rfl : t = k * k := HT.out
      clear hlt hk
      have A0 := (HA.out.later HX.out).at 0 _ rfl; have Al := (HA.out.later HX.out).lt
      have R0 := HR.out.at 0 _ rfl; have R1 := HR.out.at 1 _ rfl; have Rl := HR.out.lt
      have HQ2 := Lib.hid (HQ.out.later HX.out)
      have Q0 := HQ2.out.at 0 _ rfl; have Qf0 := HQ2.out.ok 0 (by simp); have Q1 := HQ2.out.at 1 _ rfl; have Qf1 := HQ2.out.ok 1 (by simp); have Ql := HQ2.out.lt
      go_wp2_with (fail)
      clear Q0 Qf0 Q1 Qf1 Ql R0 R1 Rl A0 Al
      rw [show ((wr.setCell ⟨Q, 0, none⟩ (.int .i64 k)).setCell ⟨Q, 1, none⟩ (.slice p3 (k * k) c3)) = wr.setCells Q 0 [.int .i64 k, .slice p3 (k * k) c3] from rfl]
      have RQ := row_far ROW.out (row_ne ROW.out (show Q < W1.heap.size by have := HQ.out.lt; have := RB.out; omega)) 0 [.int .i64 k, .slice p3 (k * k) c3]
      have HR5 : Hid (Own Q [.int .i64 k, .slice p3 (k * k) c3] (wr.setCells Q 0 [.int .i64 k, .slice p3 (k * k) c3])) := Lib.hid (Own.store HQ2.out rfl)
      have HB5 : Below w.heap.size w (wr.setCells Q 0 [.int .i64 k, .slice p3 (k * k) c3]) := Below.setCells (Below.go HB.out HX.out) QW.out _ _
      generalize wr.setCells Q 0 [.int .i64 k, .slice p3 (k * k) c3] = W5 at *
      have hL := run_loadVar_mid (P := Try.prog) _ Q 0 24 [.int .i64 k, .slice p3 (k * k) c3] _ HR5.out.cell Try.underlying24 rfl (by kernel_rfl)
      exact bodyPost_ret (v := .agg ([.int .i64 k, .slice p3 (k * k) c3] : List Value).toArray) (res_cell Try.results35 rfl hL) rfl ⟨_, _, rfl, RQ.mono (Nat.le_trans HB.out.size RB.out), HB5⟩
end Go.Proofs.Ytbhdlpndmbhaiaa

/- UL -/
namespace Go.Proofs.Ytbhdlpndmbhaiaa
set_option linter.unusedVariables false
set_option maxRecDepth 2000
set_option linter.unusedSimpArgs false
open Go.RowKit
/-- a half's error -/
def hlfE (S : Int) (z : Int) : Int := if z = 0 then (if S = 1 then 2 else 0) else z
set_option maxHeartbeats 8000000 in
theorem Half_no (M : Txr) (w : World) (hM : TxAt M w) (hz : hlfE M.S (chkT M.S M.n M.f) ≠ 0) :
    Calls Try.prog 18 #[.agg #[.int .i64 M.S, .slice M.q M.n M.c]] w fun e w' => e = .returned (.tuple #[.agg #[.int .i64 0, .slice none 0 0], .int .i64 (hlfE M.S (chkT M.S M.n M.f))]) ∧ Below w.heap.size w w' := by
  have HM := Lib.hid hM
  have CK := Lib.hid (Check_any M)
  obtain ⟨S, q, n, c, f⟩ := M
  dsimp only at *
  generalize chkT S n f = z at *
  clear hM
  by_cases h0 : z = 0
  · subst h0
    have hS : S = 1 := by
      unfold hlfE at hz
      rw [if_pos rfl] at hz
      split at hz
      · assumption
      · exact absurd rfl hz
    subst hS
    rw [show hlfE 1 0 = 2 from rfl]
    clear hz
    go_enter Try.func18, Try.ntmps18
    go_upto_region 1 with fail
    obtain ⟨W0, hW⟩ : ∃ W0, W0 = ((w.alloc (.cells #[.int .i64 1, .slice q n c] 24)).alloc (.cells #[.int .i64 0, .slice none 0 0] 24)) := ⟨_, rfl⟩
    have hB0 : Below w.heap.size w W0 := hW ▸ (Below.al (Below.al (Below.refl _ _)))
    have HA : Hid (Own w.heap.size [.int .i64 1, .slice q n c] W0) := Lib.hid (hW ▸ (Own.newAt (by simp)).alloc)
    have HR : Hid (Own (w.heap.size + 1) [.int .i64 0, .slice none 0 0] W0) := Lib.hid (hW ▸ (Own.newAt (by simp)))
    rw [← hW]
    clear hW
    obtain ⟨R, eR⟩ : ∃ X, X = (w.heap.size + 1) := ⟨_, rfl⟩
    rw [← eR] at HR ⊢
    have Rw : w.heap.size ≤ R := by omega
    obtain ⟨A, eA⟩ : ∃ X, X = w.heap.size := ⟨_, rfl⟩
    rw [← eA] at HA ⊢
    have nAR : A ≠ R := by omega
    have nRA : R ≠ A := by omega
    clear eA eR
    have HM0 := Lib.hid (HM.out.later hB0)
    have A0 := HA.out.at 0 _ rfl; have A1 := HA.out.at 1 _ rfl; have Al := HA.out.lt
    go_wp2_with (fail)
    go_at_call 11
    refine (CK.out _ HM0.out).mono ?_
    rintro e w1 ⟨rfl, hb⟩
    have HA1 := Lib.hid (HA.out.later hb)
    have HR1 := Lib.hid (HR.out.later hb)
    have HB1 := Lib.hid (Below.go hB0 hb)
    clear hb hB0 HM0 HA HR CK A0 A1 Al
    have R0 := HR1.out.at 0 _ rfl; have Rf0 := HR1.out.ok 0 (by simp); have R1 := HR1.out.at 1 _ rfl; have Rf1 := HR1.out.ok 1 (by simp); have Rl := HR1.out.lt
    have A0 := HA1.out.at 0 _ rfl; have Al := HA1.out.lt
    go_wp2_with (fail)
    clear R0 Rf0 R1 Rf1 Rl
    rw [show ((w1.setCell ⟨R, 0, none⟩ (.int .i64 0)).setCell ⟨R, 1, none⟩ (.slice none 0 0)) = w1.setCells R 0 [.int .i64 0, .slice none 0 0] from rfl]
    have HR5 : Hid (Own R [.int .i64 0, .slice none 0 0] (w1.setCells R 0 [.int .i64 0, .slice none 0 0])) := Lib.hid (Own.store HR1.out rfl)
    have HB5 : Below w.heap.size w (w1.setCells R 0 [.int .i64 0, .slice none 0 0]) := Below.setCells HB1.out Rw _ _
    generalize w1.setCells R 0 [.int .i64 0, .slice none 0 0] = W5 at *
    have hL := run_loadVar_mid (P := Try.prog) _ R 0 24 [.int .i64 0, .slice none 0 0] _ HR5.out.cell Try.underlying24 rfl (by kernel_rfl)
    refine bodyPost_ret (v := .tuple #[.agg ([.int .i64 0, .slice none 0 0] : List Value).toArray, .int .i64 2]) ?_ rfl ?_
    · exact res_two Try.results18 rfl hL rfl
    · exact ⟨rfl, HB5⟩
  · have hd : (z != 0) = true := by simpa using h0
    rw [show hlfE S z = z from if_neg h0]
    clear hz h0
    go_enter Try.func18, Try.ntmps18
    go_upto_region 1 with fail
    obtain ⟨W0, hW⟩ : ∃ W0, W0 = ((w.alloc (.cells #[.int .i64 S, .slice q n c] 24)).alloc (.cells #[.int .i64 0, .slice none 0 0] 24)) := ⟨_, rfl⟩
    have hB0 : Below w.heap.size w W0 := hW ▸ (Below.al (Below.al (Below.refl _ _)))
    have HA : Hid (Own w.heap.size [.int .i64 S, .slice q n c] W0) := Lib.hid (hW ▸ (Own.newAt (by simp)).alloc)
    have HR : Hid (Own (w.heap.size + 1) [.int .i64 0, .slice none 0 0] W0) := Lib.hid (hW ▸ (Own.newAt (by simp)))
    rw [← hW]
    clear hW
    obtain ⟨R, eR⟩ : ∃ X, X = (w.heap.size + 1) := ⟨_, rfl⟩
    rw [← eR] at HR ⊢
    have Rw : w.heap.size ≤ R := by omega
    obtain ⟨A, eA⟩ : ∃ X, X = w.heap.size := ⟨_, rfl⟩
    rw [← eA] at HA ⊢
    have nAR : A ≠ R := by omega
    have nRA : R ≠ A := by omega
    clear eA eR
    have HM0 := Lib.hid (HM.out.later hB0)
    have A0 := HA.out.at 0 _ rfl; have A1 := HA.out.at 1 _ rfl; have Al := HA.out.lt
    go_wp2_with (fail)
    go_at_call 11
    refine (CK.out _ HM0.out).mono ?_
    rintro e w1 ⟨rfl, hb⟩
    have HA1 := Lib.hid (HA.out.later hb)
    have HR1 := Lib.hid (HR.out.later hb)
    have HB1 := Lib.hid (Below.go hB0 hb)
    clear hb hB0 HM0 HA HR CK A0 A1 Al
    have R0 := HR1.out.at 0 _ rfl; have Rf0 := HR1.out.ok 0 (by simp); have R1 := HR1.out.at 1 _ rfl; have Rf1 := HR1.out.ok 1 (by simp); have Rl := HR1.out.lt
    go_wp2_with (fail)
    clear R0 Rf0 R1 Rf1 Rl
    rw [show ((w1.setCell ⟨R, 0, none⟩ (.int .i64 0)).setCell ⟨R, 1, none⟩ (.slice none 0 0)) = w1.setCells R 0 [.int .i64 0, .slice none 0 0] from rfl]
    have HR5 : Hid (Own R [.int .i64 0, .slice none 0 0] (w1.setCells R 0 [.int .i64 0, .slice none 0 0])) := Lib.hid (Own.store HR1.out rfl)
    have HB5 : Below w.heap.size w (w1.setCells R 0 [.int .i64 0, .slice none 0 0]) := Below.setCells HB1.out Rw _ _
    generalize w1.setCells R 0 [.int .i64 0, .slice none 0 0] = W5 at *
    have hL := run_loadVar_mid (P := Try.prog) _ R 0 24 [.int .i64 0, .slice none 0 0] _ HR5.out.cell Try.underlying24 rfl (by kernel_rfl)
    refine bodyPost_ret (v := .tuple #[.agg ([.int .i64 0, .slice none 0 0] : List Value).toArray, .int .i64 z]) ?_ rfl ?_
    · exact res_two Try.results18 rfl hL rfl
    · exact ⟨rfl, HB5⟩
set_option maxHeartbeats 8000000 in
theorem Half_yes (M : Txr) (s h : Nat) (w : World) (hM : TxAt M w) (hz : chkT M.S M.n M.f = 0) (eS : M.S = (s : Int)) (es : s = 2 * h) (h1 : 1 ≤ h) (h8 : h ≤ 8) (hn : M.n = s * s) :
    Calls Try.prog 18 #[.agg #[.int .i64 M.S, .slice M.q M.n M.c]] w fun e w' => ∃ p d, e = .returned (.tuple #[.agg #[.int .i64 h, .slice p (h * h) d], .int .i64 0]) ∧ w'.ownsRow w.heap.size 50 3 (.slice p (h * h) d) (h * h) (nums .i64 (hlfF M.f s h) (h * h * 3)) ∧ Below w.heap.size w w' := by
  have HM := Lib.hid hM
  have CK := Lib.hid (Check_any M)
  have GV := (tchk_good hz).v
  obtain ⟨S, q, n, c, f⟩ := M
  dsimp only at *
  rw [hz] at CK
  have HF := Lib.hid (fun w hm => half_any S q n c s h f eS es h1 h8 hn GV HM.out.m w hm)
  have ne : (S == 1) = false := by simp; omega
  generalize hlfF f s h = G at *
  generalize h * h = m at *
  clear hM hz es h1 h8 hn eS GV
  go_enter Try.func18, Try.ntmps18
  go_upto_region 1 with fail
  obtain ⟨W0, hW⟩ : ∃ W0, W0 = ((w.alloc (.cells #[.int .i64 S, .slice q n c] 24)).alloc (.cells #[.int .i64 0, .slice none 0 0] 24)) := ⟨_, rfl⟩
  have hB0 : Below w.heap.size w W0 := hW ▸ (Below.al (Below.al (Below.refl _ _)))
  have HA : Hid (Own w.heap.size [.int .i64 S, .slice q n c] W0) := Lib.hid (hW ▸ (Own.newAt (by simp)).alloc)
  have HR : Hid (Own (w.heap.size + 1) [.int .i64 0, .slice none 0 0] W0) := Lib.hid (hW ▸ (Own.newAt (by simp)))
  rw [← hW]
  clear hW
  obtain ⟨R, eR⟩ : ∃ X, X = (w.heap.size + 1) := ⟨_, rfl⟩
  rw [← eR] at HR ⊢
  have Rw : w.heap.size ≤ R := by omega
  obtain ⟨A, eA⟩ : ∃ X, X = w.heap.size := ⟨_, rfl⟩
  rw [← eA] at HA ⊢
  have nAR : A ≠ R := by omega
  have nRA : R ≠ A := by omega
  clear eA eR
  have HM0 := Lib.hid (HM.out.later hB0)
  have A0 := HA.out.at 0 _ rfl; have A1 := HA.out.at 1 _ rfl; have Al := HA.out.lt
  go_wp2_with (fail)
  go_at_call 11
  refine (CK.out _ HM0.out).mono ?_
  rintro e w1 ⟨rfl, hb⟩
  have HA1 := Lib.hid (HA.out.later hb)
  have HR1 := Lib.hid (HR.out.later hb)
  have HB1 := Lib.hid (Below.go hB0 hb)
  clear hb hB0 HM0 HA HR CK A0 A1 Al
  have HT1 := Lib.hid (HM.out.t.later HB1.out)
  dsimp only at HT1
  have A0 := HA1.out.at 0 _ rfl; have A1 := HA1.out.at 1 _ rfl; have Al := HA1.out.lt
  go_wp2_with (fail)
  go_at_call 35
  refine (HF.out _ HT1.out).mono ?_
  rintro e w2 ⟨p, d, rfl, hr, hb⟩
  have HRW := Lib.hid hr
  have HR2 := Lib.hid (HR1.out.later hb)
  have HB2 := Lib.hid (Below.go HB1.out hb)
  have hRb : R < w1.heap.size := HR1.out.lt
  have hWb := HB1.out.size
  clear hb HR1 HB1 HT1 HF hr A0 A1 Al HA1
  have R0 := HR2.out.at 0 _ rfl; have Rf0 := HR2.out.ok 0 (by simp); have R1 := HR2.out.at 1 _ rfl; have Rf1 := HR2.out.ok 1 (by simp); have Rl := HR2.out.lt
  go_wp2_with (fail)
  clear R0 Rf0 R1 Rf1 Rl
  rw [show ((w2.setCell ⟨R, 0, none⟩ (.int .i64 h)).setCell ⟨R, 1, none⟩ (.slice p m d)) = w2.setCells R 0 [.int .i64 h, .slice p m d] from rfl]
  have HR5 : Hid (Own R [.int .i64 h, .slice p m d] (w2.setCells R 0 [.int .i64 h, .slice p m d])) := Lib.hid (Own.store HR2.out rfl)
  have HB5 : Below w.heap.size w (w2.setCells R 0 [.int .i64 h, .slice p m d]) := Below.setCells HB2.out Rw _ _
  have RQ := row_far HRW.out (row_ne HRW.out hRb) 0 [.int .i64 h, .slice p m d]
  generalize w2.setCells R 0 [.int .i64 h, .slice p m d] = W5 at *
  have hL := run_loadVar_mid (P := Try.prog) _ R 0 24 [.int .i64 h, .slice p m d] _ HR5.out.cell Try.underlying24 rfl (by kernel_rfl)
  refine bodyPost_ret (v := .tuple #[.agg ([.int .i64 h, .slice p m d] : List Value).toArray, .int .i64 0]) ?_ rfl ?_
  · exact res_two Try.results18 rfl hL rfl
  · exact ⟨p, d, rfl, RQ.mono hWb, HB5⟩
end Go.Proofs.Ytbhdlpndmbhaiaa

/- UP -/
namespace Go.Proofs.Ytbhdlpndmbhaiaa
set_option linter.unusedVariables false
set_option maxRecDepth 2000
set_option linter.unusedSimpArgs false
open Go.RowKit
attribute [local go_sem ↓] eq3_run neq3_run
def wkT (j : Nat) : Int := [(0 : Int), 0, 0, 1, 0, 0, 2, 0, 0, 4, 0, 0].getD j 0
theorem wk_chk : chkT 2 4 wkT = 0 := by decide
theorem wk_half : nums .i64 (hlfF wkT 2 1) (1 * 1 * 3) = [.int .i64 2, .int .i64 0, .int .i64 0] := by kernel_rfl
set_option maxHeartbeats 8000000 in
theorem works_any (w : World) : Calls Try.prog 14 #[] w fun e w' => e = .returned (.bool true) ∧ Below w.heap.size w w' := by
  go_enter Try.func14, Try.ntmps14
  go_wp2_with (fail)
  have HT := Lib.hid (show Has w.heap.size 0 (nums .i64 wkT (4 * 3)) (w.alloc (.cells #[.int .i64 0, .int .i64 0, .int .i64 0, .int .i64 1, .int .i64 0, .int .i64 0, .int .i64 2, .int .i64 0, .int .i64 0, .int .i64 4, .int .i64 0, .int .i64 0] 50)) from (Own.newAt rfl).has)
  have HB : Hid (Below w.heap.size w (w.alloc (.cells #[.int .i64 0, .int .i64 0, .int .i64 0, .int .i64 1, .int .i64 0, .int .i64 0, .int .i64 2, .int .i64 0, .int .i64 0, .int .i64 4, .int .i64 0, .int .i64 0] 50))) := Lib.hid (Below.al (Below.refl _ _))
  generalize (w.alloc (.cells #[.int .i64 0, .int .i64 0, .int .i64 0, .int .i64 1, .int .i64 0, .int .i64 0, .int .i64 2, .int .i64 0, .int .i64 0, .int .i64 4, .int .i64 0, .int .i64 0] 50)) = W0 at *
  obtain ⟨V, eV⟩ : ∃ X, X = w.heap.size := ⟨_, rfl⟩
  rw [← eV] at HT ⊢
  clear eV
  have HM : Hid (TxAt ⟨2, some ⟨V, 0, none⟩, 4, 4, wkT⟩ W0) := Lib.hid ⟨.inr ⟨V, 0, rfl, HT.out⟩, Nat.le_refl _, (show 4 ≤ 9223372036854775807 by decide)⟩
  go_at_call 18
  refine (Half_yes ⟨2, some ⟨V, 0, none⟩, 4, 4, wkT⟩ 2 1 _ HM.out wk_chk rfl rfl (by decide) (by decide) rfl).mono ?_
  rintro e w1 ⟨p, d, rfl, hr, hb⟩
  rw [wk_half] at hr
  obtain ⟨g, rfl, hx⟩ : ∃ g, p = some ⟨g, 0, none⟩ ∧ Has g 0 [.int .i64 2, .int .i64 0, .int .i64 0] w1 := by
    rcases hr.2 with ⟨_, h0⟩ | ⟨g, cap, _, hv, _⟩
    · exact absurd h0 (by decide)
    · have e : p = some ⟨g, 0, none⟩ := by injection hv
      subst e
      exact ⟨g, rfl, (row_has' hr).1⟩
  have HX := Lib.hid hx
  have HB1 := Lib.hid (Below.go HB.out hb)
  have c0 := hx.at 0 _ rfl; have c1 := hx.at 1 _ rfl; have c2 := hx.at 2 _ rfl; have cl := hx.lt
  have es := eq3B_self 2 0 0
  clear hr hb hx HM HT HB HX
  rw [show ((1 : Nat) : Int) = 1 from rfl, show 1 * 1 = 1 from rfl]
  go_wp2_with (fail)
  go_ret
  exact ⟨rfl, Below.al HB1.out⟩
end Go.Proofs.Ytbhdlpndmbhaiaa
