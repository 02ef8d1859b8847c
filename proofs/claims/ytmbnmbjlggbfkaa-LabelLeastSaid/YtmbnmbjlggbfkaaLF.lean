/- label: LabelLeast's walk. -/
import Derived.Test.YtmbnmbjlggbfkaaLB
namespace Go.Proofs.Ytmbnmbjlggbfkaa
set_option linter.unusedVariables false
set_option maxRecDepth 2000
set_option linter.unusedSimpArgs false
open Go.RowKit
def alB (P : Nat → Bool) : Nat → Bool
  | 0 => true
  | k + 1 => alB P k && P k
theorem alB_iff (P : Nat → Bool) : ∀ n, alB P n = true ↔ ∀ k, k < n → P k = true
  | 0 => by simp [alB]
  | n + 1 => by
    rw [alB, Bool.and_eq_true, alB_iff P n]
    constructor
    · intro ⟨h, h2⟩ k hk
      by_cases e : k = n
      · rw [e]; exact h2
      · exact h k (by omega)
    · intro h
      exact ⟨fun k hk => h k (by omega), h n (by omega)⟩
theorem tb_join {f : Nat → Int} (i : Nat) : ∀ n, tb (joinF 0 f n) i = true ↔ ∃ k, k < n ∧ tb (f k) i = true
  | 0 => by simp [joinF, tb_zero]
  | n + 1 => by
    rw [joinF, tb_or, Bool.or_eq_true, tb_join i n]
    constructor
    · rintro (⟨k, hk, h⟩ | h)
      · exact ⟨k, by omega, h⟩
      · exact ⟨n, by omega, h⟩
    · intro ⟨k, hk, h⟩
      by_cases e : k = n
      · rw [e] at h; exact .inr h
      · exact .inl ⟨k, by omega, h⟩
theorem in_zero : inU 0 := ⟨Int.le_refl _, by decide⟩
theorem least_1 {f : Nat → Int} {n : Nat} (hf : ∀ k, k < n → inU (f k)) (k : Nat) (hk : k < n) : belowU (f k) (joinF 0 f n) = true :=
  (below_iff (hf k hk) (in_join in_zero hf n (Nat.le_refl _))).2 fun i _ h => (tb_join i n).2 ⟨k, hk, h⟩
theorem least_2 {f : Nat → Int} {n : Nat} {a : Int} (hf : ∀ k, k < n → inU (f k)) (ha : inU a) : belowU (joinF 0 f n) a = alB (fun k => belowU (f k) a) n := by
  apply Bool.eq_iff_iff.2
  rw [alB_iff, below_iff (in_join in_zero hf n (Nat.le_refl _)) ha]
  constructor
  · intro h k hk
    exact (below_iff (hf k hk) ha).2 fun i hi ht => h i hi ((tb_join i n).2 ⟨k, hk, ht⟩)
  · intro h i hi ht
    obtain ⟨k, hk, h2⟩ := (tb_join i n).1 ht
    exact (below_iff (hf k hk) ha).1 (h k hk) i hi h2
theorem below_tr {a b c : Int} (ha : inU a) (hb : inU b) (hc : inU c) (h1 : belowU a b = true) (h2 : belowU b c = true) : belowU a c = true :=
  (below_iff ha hc).2 fun i hi h => (below_iff hb hc).1 h2 i hi ((below_iff ha hb).1 h1 i hi h)
theorem below_eq {a b : Int} (ha : inU a) (hb : inU b) : (belowU a b && belowU b a) = (a == b) := by
  apply Bool.eq_iff_iff.2
  rw [Bool.and_eq_true, beq_iff_eq]
  constructor
  · intro ⟨h1, h2⟩
    apply tb_ext ha hb
    intro i hi
    exact Bool.eq_iff_iff.2 ⟨(below_iff ha hb).1 h1 i hi, (below_iff hb ha).1 h2 i hi⟩
  · rintro rfl
    have : belowU a a = true := (below_iff ha ha).2 fun _ _ h => h
    exact ⟨this, this⟩
set_option maxHeartbeats 4000000 in
theorem Least_law (f : Nat → Int) (p : Option Addr) (n c m : Nat) (a b : Int) (hm : m = min n 8) (hc : n ≤ c) (hc2 : c ≤ 9223372036854775807) (hf : ∀ k, k < m → inU (f k)) (ha : inU a) (hb : inU b) (w : World) (hp : U32s w p m f) :
    Calls Try.prog 6 #[.slice p n c, .int .u32 a, .int .u32 b] w fun e w' => e = .returned (.bool true) ∧ Below w.heap.size w w' := by
  have hm8 : m ≤ 8 := by omega
  have HM : Hid (m ≤ 8) := Lib.hid hm8
  have HJ := Lib.hid (Join_any p m c f hf (by omega) w hp)
  have IJ := Lib.hid (in_join in_zero hf m (Nat.le_refl _))
  have HF := Lib.hid hf
  have HP := Lib.hid hp
  have IA := Lib.hid ha; have IB := Lib.hid hb
  have L1 := Lib.hid (least_1 hf)
  have L2 := Lib.hid (least_2 hf ha)
  generalize joinF 0 f m = j at *
  have LT := Lib.hid (fun h1 h2 => below_tr (a := j) IJ.out ha hb h1 h2)
  have LE := Lib.hid (below_eq ha hb)
  have em : (if (8 : Int) < (n : Int) then 8 else (n : Int)) = (m : Int) := by split <;> omega
  have mc : m ≤ c := by omega
  have mn : (m : Int) ≤ (c : Int) := by omega
  have m0 : (0 : Int) ≤ (m : Int) := by omega
  clear hm hm8 hf hp ha hb
  go_enter Try.func6, Try.ntmps6
  go_wp2_with (fail)
  go_at_call 8
  refine HJ.out.mono ?_
  rintro e w1 ⟨rfl, hw⟩
  obtain rfl : w = w1 := hw.symm
  clear HJ
  go_wp2_with (fail)
  go_loopw [8, 20] (fun sv iv wr => ∃ (k : Nat), k ≤ m ∧ sv = .bool (alB (fun k => belowU (f k) a) k) ∧ iv = .int .i64 k ∧ w = wr) (fun _ iv _ => (m - (intOf iv).toNat))
  case atStart => exact ⟨0, Nat.zero_le _, rfl, rfl, rfl⟩
  case round =>
    obtain ⟨k, hk, rfl, rfl, rfl⟩ := hrel
    by_cases h : k < m
    · have wk : IntKind.i64.wrap ((k : Int) + 1) = (k : Int) + 1 := IntWalk.i64_in _ (by have := HM.out; omega)
      obtain ⟨b, o, rfl, hl, hc⟩ := HP.out.resolve_left (by omega)
      have c0 := hc k h
      have e1 : decide (k < m) = true := decide_eq_true h
      have HK := Lib.hid h
      have B1 := Lib.hid (Below_any (f k) j (HF.out k h) IJ.out w)
      have B2 := Lib.hid (Below_any (f k) a (HF.out k h) IA.out w)
      rw [L1.out k h] at B1
      have EN : Hid (alB (fun k => belowU (f k) a) (k + 1) = (alB (fun k => belowU (f k) a) k && belowU (f k) a)) := Lib.hid rfl
      obtain ⟨N, eN⟩ : ∃ N, alB (fun k => belowU (f k) a) (k + 1) = N := ⟨_, rfl⟩
      rw [eN] at EN
      have HN := Lib.hid eN
      generalize alB (fun k => belowU (f k) a) k = B at *
      clear hk hc h eN
      cases B with
      | true =>
        go_wp2_with (fail)
        go_at_call 10
        refine (B1.out).mono ?_
        rintro e w1 ⟨rfl, hw⟩
        obtain rfl : w = w1 := hw.symm
        go_wp2_with (fail)
        go_at_call 10
        refine (B2.out).mono ?_
        rintro e w1 ⟨rfl, hw⟩
        obtain rfl : w = w1 := hw.symm
        go_wp2_with (fail)
        go_roundw
        case rel => exact ⟨k + 1, HK.out, by rw [HN.out, EN.out]; rfl, by go_num, (by first | rfl | trivial)⟩
        case measure => (have := HK.out; simp [intOf]; omega)
      | false =>
        go_wp2_with (fail)
        go_at_call 10
        refine (B1.out).mono ?_
        rintro e w1 ⟨rfl, hw⟩
        obtain rfl : w = w1 := hw.symm
        go_wp2_with (fail)
        go_roundw
        case rel => exact ⟨k + 1, HK.out, by rw [HN.out, EN.out]; rfl, by go_num, (by first | rfl | trivial)⟩
        case measure => (have := HK.out; simp [intOf]; omega)
    · obtain rfl : k = m := by omega
      have e1 : decide (k < k) = false := decide_eq_false h
      have JA := Lib.hid (Below_any j a IJ.out IA.out w)
      have JB := Lib.hid (Below_any j b IJ.out IB.out w)
      have AB := Lib.hid (Below_any a b IA.out IB.out w)
      have BA := Lib.hid (Below_any b a IB.out IA.out w)
      rw [← L2.out]
      clear hk L2 L1 h
      generalize belowU j a = ja at *
      generalize belowU j b = jb at *
      generalize belowU a b = ab at *
      generalize belowU b a = ba at *
      have EQ : (a == b) = (ab && ba) := LE.out.symm
      clear LE
      cases ab with
      | false =>
        have EQ2 : (a == b) = false := EQ
        clear EQ LT
        cases ja with
        | false =>
          go_wp2_with (fail)
          go_at_call 10
          refine (JA.out).mono ?_
          rintro e w1 ⟨rfl, hw⟩
          obtain rfl : w = w1 := hw.symm
          go_wp2_with (fail)
          go_at_call 10
          refine (JA.out).mono ?_
          rintro e w1 ⟨rfl, hw⟩
          obtain rfl : w = w1 := hw.symm
          go_wp2_with (fail)
          go_at_call 10
          refine (AB.out).mono ?_
          rintro e w1 ⟨rfl, hw⟩
          obtain rfl : w = w1 := hw.symm
          go_wp2_with (fail)
          go_at_call 11
          refine (works_any _).mono ?_
          rintro e w2 ⟨rfl, hb⟩
          go_wp2_with (fail)
          go_ret
          exact ⟨rfl, hb⟩
        | true =>
          go_wp2_with (fail)
          go_at_call 10
          refine (JA.out).mono ?_
          rintro e w1 ⟨rfl, hw⟩
          obtain rfl : w = w1 := hw.symm
          go_wp2_with (fail)
          go_at_call 10
          refine (JA.out).mono ?_
          rintro e w1 ⟨rfl, hw⟩
          obtain rfl : w = w1 := hw.symm
          go_wp2_with (fail)
          go_at_call 10
          refine (AB.out).mono ?_
          rintro e w1 ⟨rfl, hw⟩
          obtain rfl : w = w1 := hw.symm
          go_wp2_with (fail)
          go_at_call 10
          refine (AB.out).mono ?_
          rintro e w1 ⟨rfl, hw⟩
          obtain rfl : w = w1 := hw.symm
          go_wp2_with (fail)
          go_at_call 11
          refine (works_any _).mono ?_
          rintro e w2 ⟨rfl, hb⟩
          go_wp2_with (fail)
          go_ret
          exact ⟨rfl, hb⟩
      | true =>
        have EQ2 : (a == b) = ba := EQ
        clear EQ
        cases ja with
        | false =>
          clear LT
          go_wp2_with (fail)
          go_at_call 10
          refine (JA.out).mono ?_
          rintro e w1 ⟨rfl, hw⟩
          obtain rfl : w = w1 := hw.symm
          go_wp2_with (fail)
          go_at_call 10
          refine (JA.out).mono ?_
          rintro e w1 ⟨rfl, hw⟩
          obtain rfl : w = w1 := hw.symm
          go_wp2_with (fail)
          go_at_call 10
          refine (AB.out).mono ?_
          rintro e w1 ⟨rfl, hw⟩
          obtain rfl : w = w1 := hw.symm
          go_wp2_with (fail)
          go_at_call 10
          refine (BA.out).mono ?_
          rintro e w1 ⟨rfl, hw⟩
          obtain rfl : w = w1 := hw.symm
          go_wp2_with (fail)
          go_at_call 11
          refine (works_any _).mono ?_
          rintro e w2 ⟨rfl, hb⟩
          go_wp2_with (fail)
          go_ret
          exact ⟨rfl, hb⟩
        | true =>
          obtain rfl : jb = true := LT.out rfl rfl
          clear LT
          go_wp2_with (fail)
          go_at_call 10
          refine (JA.out).mono ?_
          rintro e w1 ⟨rfl, hw⟩
          obtain rfl : w = w1 := hw.symm
          go_wp2_with (fail)
          go_at_call 10
          refine (JA.out).mono ?_
          rintro e w1 ⟨rfl, hw⟩
          obtain rfl : w = w1 := hw.symm
          go_wp2_with (fail)
          go_at_call 10
          refine (AB.out).mono ?_
          rintro e w1 ⟨rfl, hw⟩
          obtain rfl : w = w1 := hw.symm
          go_wp2_with (fail)
          go_at_call 10
          refine (JB.out).mono ?_
          rintro e w1 ⟨rfl, hw⟩
          obtain rfl : w = w1 := hw.symm
          go_wp2_with (fail)
          go_at_call 10
          refine (AB.out).mono ?_
          rintro e w1 ⟨rfl, hw⟩
          obtain rfl : w = w1 := hw.symm
          go_wp2_with (fail)
          go_at_call 10
          refine (BA.out).mono ?_
          rintro e w1 ⟨rfl, hw⟩
          obtain rfl : w = w1 := hw.symm
          go_wp2_with (fail)
          go_at_call 11
          refine (works_any _).mono ?_
          rintro e w2 ⟨rfl, hb⟩
          go_wp2_with (fail)
          go_ret
          exact ⟨rfl, hb⟩
end Go.Proofs.Ytmbnmbjlggbfkaa
