/- label: LabelJoins' walk. -/
import Derived.Test.YtmbnmbjlggbfkaaLF
namespace Go.Proofs.Ytmbnmbjlggbfkaa
set_option linter.unusedVariables false
set_option maxRecDepth 2000
set_option linter.unusedSimpArgs false
open Go.RowKit
def anB (P : Nat → Bool) : Nat → Bool
  | 0 => false
  | k + 1 => anB P k || P k
theorem anB_iff (P : Nat → Bool) : ∀ n, anB P n = true ↔ ∃ k, k < n ∧ P k = true
  | 0 => by simp [anB]
  | n + 1 => by
    rw [anB, Bool.or_eq_true, anB_iff P n]
    constructor
    · rintro (⟨k, hk, h⟩ | h)
      · exact ⟨k, by omega, h⟩
      · exact ⟨n, by omega, h⟩
    · intro ⟨k, hk, h⟩
      by_cases e : k = n
      · rw [e] at h; exact .inr h
      · exact .inl ⟨k, by omega, h⟩
theorem join_any {f : Nat → Int} (i n : Nat) : anB (fun k => tb (f k) i) n = tb (joinF 0 f n) i :=
  Bool.eq_iff_iff.2 ((anB_iff _ n).trans (tb_join i n).symm)
theorem below_all {a b : Int} (ha : inU a) (hb : inU b) : alB (fun i => !tb a i || tb b i) 32 = belowU a b := by
  apply Bool.eq_iff_iff.2
  rw [alB_iff, below_iff ha hb]
  constructor
  · intro h i hi ht
    have := h i hi
    rw [ht] at this
    simpa using this
  · intro h i hi
    cases e : tb a i with
    | false => rfl
    | true => simpa using h i hi e
set_option maxHeartbeats 4000000 in
theorem Joins_law (f : Nat → Int) (p : Option Addr) (n c m : Nat) (a b : Int) (hm : m = min n 8) (hc : n ≤ c) (hc2 : c ≤ 9223372036854775807) (hf : ∀ k, k < m → inU (f k)) (ha : inU a) (hb : inU b) (w : World) (hp : U32s w p m f) :
    Calls Try.prog 3 #[.slice p n c, .int .u32 a, .int .u32 b] w fun e w' => e = .returned (.bool true) ∧ Below w.heap.size w w' := by
  have hm8 : m ≤ 8 := by omega
  have HM : Hid (m ≤ 8) := Lib.hid hm8
  have HJ := Lib.hid (Join_any p m c f hf (by omega) w hp)
  have HZ := Lib.hid (Join_any none 0 0 f (fun k hk => absurd hk (by omega)) (by decide) w (.inl rfl))
  have IJ := Lib.hid (in_join in_zero hf m (Nat.le_refl _))
  have HF := Lib.hid hf
  have HP := Lib.hid hp
  have IA := Lib.hid ha; have IB := Lib.hid hb
  have L1 := Lib.hid (fun i => join_any (f := f) i m)
  have L2 := Lib.hid (below_all ha hb)
  generalize joinF 0 f m = j at *
  have AB := Lib.hid (Below_any a b ha hb w)
  have em : (if (8 : Int) < (n : Int) then 8 else (n : Int)) = (m : Int) := by split <;> omega
  have mc : m ≤ c := by omega
  have mn : (m : Int) ≤ (c : Int) := by omega
  have m0 : (0 : Int) ≤ (m : Int) := by omega
  clear hm hm8 hf hp ha hb
  go_enter Try.func3, Try.ntmps3
  go_wp2_with (fail)
  go_at_call 8
  refine (HJ.out).mono ?_
  rintro e w1 ⟨rfl, hw⟩
  obtain rfl : w = w1 := hw.symm
  go_wp2_with (fail)
  clear HJ hw
  go_loopw [8, 20] (fun sv iv wr => ∃ (i : Nat), i ≤ 32 ∧ sv = .bool (alB (fun i => !tb a i || tb b i) i) ∧ iv = .int .i64 i ∧ w = wr) (fun _ iv _ => (32 - (intOf iv).toNat))
  case atStart => exact ⟨0, Nat.zero_le _, rfl, rfl, rfl⟩
  case round =>
    obtain ⟨i, hi, rfl, rfl, rfl⟩ := hrel
    by_cases h : i < 32
    · have wi : IntKind.i64.wrap ((i : Int) + 1) = (i : Int) + 1 := IntWalk.i64_in _ (by omega)
      have e1 : decide (i < 32) = true := decide_eq_true h
      have e2 : decide ((i : Int) < 32) = true := decide_eq_true (by omega)
      have HK := Lib.hid h
      have BJ := Lib.hid (Bit_any j i IJ.out h w)
      have BA := Lib.hid (Bit_any a i IA.out h w)
      have BB := Lib.hid (Bit_any b i IB.out h w)
      rw [← L1.out i] at BJ
      obtain ⟨N, eN⟩ : ∃ N, alB (fun i => !tb a i || tb b i) (i + 1) = N := ⟨_, rfl⟩
      have EN : Hid (N = (alB (fun i => !tb a i || tb b i) i && (!tb a i || tb b i))) := Lib.hid (eN ▸ rfl)
      have HN := Lib.hid eN
      clear hi h eN
      generalize alB (fun i => !tb a i || tb b i) i = B at *
      go_wp2_with (fail)
      go_loopw [10, 25] (fun sv kv wr => ∃ (k : Nat), k ≤ m ∧ sv = .bool (anB (fun k => tb (f k) i) k) ∧ kv = .int .i64 k ∧ w = wr) (fun _ kv _ => (m - (intOf kv).toNat))
      case atStart => exact ⟨0, Nat.zero_le _, rfl, rfl, rfl⟩
      case round =>
        obtain ⟨k, hk, rfl, rfl, rfl⟩ := hrel
        by_cases h : k < m
        · have wk : IntKind.i64.wrap ((k : Int) + 1) = (k : Int) + 1 := IntWalk.i64_in _ (by have := HM.out; omega)
          obtain ⟨D, o, rfl, hl, hcc⟩ := HP.out.resolve_left (by omega)
          have c0 := hcc k h
          have e3 : decide (k < m) = true := decide_eq_true h
          have HL := Lib.hid h
          have BX := Lib.hid (Bit_any (f k) i (HF.out k h) HK.out w)
          obtain ⟨M, eM⟩ : ∃ M, anB (fun k => tb (f k) i) (k + 1) = M := ⟨_, rfl⟩
          have EM : Hid (M = (anB (fun k => tb (f k) i) k || tb (f k) i)) := Lib.hid (eM ▸ rfl)
          have HMM := Lib.hid eM
          generalize anB (fun k => tb (f k) i) k = C at *
          clear hk hcc h eM
          cases C with
          | true =>
            go_wp2_with (fail)
            go_roundw
            case rel => exact ⟨k + 1, HL.out, by rw [HMM.out, EM.out]; rfl, by go_num, (by first | rfl | trivial)⟩
            case measure => (have := HL.out; simp [intOf]; omega)
          | false =>
            go_wp2_with (fail)
            go_at_call 9
            refine (BX.out).mono ?_
            rintro e w1 ⟨rfl, hw⟩
            obtain rfl : w = w1 := hw.symm
            go_wp2_with (fail)
            go_roundw
            case rel => exact ⟨k + 1, HL.out, by rw [HMM.out, EM.out]; rfl, by go_num, (by first | rfl | trivial)⟩
            case measure => (have := HL.out; simp [intOf]; omega)
        · obtain rfl : k = m := by omega
          have e3 : decide (k < k) = false := decide_eq_false h
          clear hk h
          generalize anB (fun q => tb (f q) i) k = R at *
          generalize tb a i = ta at *
          generalize tb b i = tb_ at *
          cases B with
          | false =>
            go_wp2_with (fail)
            go_at_call 9
            refine (BJ.out).mono ?_
            rintro e w1 ⟨rfl, hw⟩
            obtain rfl : w = w1 := hw.symm
            go_wp2_with (fail)
            go_roundw
            case rel => exact ⟨i + 1, HK.out, by rw [HN.out, EN.out]; rfl, by go_num, (by first | rfl | trivial)⟩
            case measure => (have := HK.out; simp [intOf]; omega)
          | true =>
            cases ta with
            | true =>
              go_wp2_with (fail)
              go_at_call 9
              refine (BJ.out).mono ?_
              rintro e w1 ⟨rfl, hw⟩
              obtain rfl : w = w1 := hw.symm
              go_wp2_with (fail)
              go_at_call 9
              refine (BA.out).mono ?_
              rintro e w1 ⟨rfl, hw⟩
              obtain rfl : w = w1 := hw.symm
              go_wp2_with (fail)
              go_at_call 9
              refine (BB.out).mono ?_
              rintro e w1 ⟨rfl, hw⟩
              obtain rfl : w = w1 := hw.symm
              go_wp2_with (fail)
              go_roundw
              case rel => exact ⟨i + 1, HK.out, by rw [HN.out, EN.out]; rfl, by go_num, (by first | rfl | trivial)⟩
              case measure => (have := HK.out; simp [intOf]; omega)
            | false =>
              go_wp2_with (fail)
              go_at_call 9
              refine (BJ.out).mono ?_
              rintro e w1 ⟨rfl, hw⟩
              obtain rfl : w = w1 := hw.symm
              go_wp2_with (fail)
              go_at_call 9
              refine (BA.out).mono ?_
              rintro e w1 ⟨rfl, hw⟩
              obtain rfl : w = w1 := hw.symm
              go_wp2_with (fail)
              go_roundw
              case rel => exact ⟨i + 1, HK.out, by rw [HN.out, EN.out]; rfl, by go_num, (by first | rfl | trivial)⟩
              case measure => (have := HK.out; simp [intOf]; omega)
    · obtain rfl : i = 32 := by omega
      have e2 : decide (((32 : Nat) : Int) < 32) = false := by decide
      rw [L2.out]
      generalize belowU a b = q at *
      clear h hi
      go_wp2_with (fail)
      go_at_call 10
      refine (AB.out).mono ?_
      rintro e w1 ⟨rfl, hw⟩
      obtain rfl : w = w1 := hw.symm
      go_wp2_with (fail)
      go_at_call 8
      refine (HZ.out).mono ?_
      rintro e w1 ⟨rfl, hw⟩
      obtain rfl : w = w1 := hw.symm
      go_wp2_with (fail)
      go_at_call 11
      refine (works_any _).mono ?_
      rintro e w2 ⟨rfl, hb⟩
      go_wp2_with (fail)
      go_ret
      exact ⟨rfl, hb⟩
end Go.Proofs.Ytmbnmbjlggbfkaa
