/- label: a list of labels; the fold, Join; the example. -/
import Derived.Test.YtmbnmbjlggbfkaaLA
namespace Go.Proofs.Ytmbnmbjlggbfkaa
set_option linter.unusedVariables false
set_option maxRecDepth 2000
set_option linter.unusedSimpArgs false
open Go.RowKit
/-- a slice that holds f's first n numbers of 32 bits -/
def U32s (w : World) (p : Option Addr) (n : Nat) (f : Nat → Int) : Prop := n = 0 ∨ ∃ b o, p = some ⟨b, o, none⟩ ∧ b < w.heap.size ∧ ∀ k, k < n → w.cell? ⟨b, o + k, none⟩ = some (.int .u32 (f k))
theorem U32s.later {w w' : World} {p : Option Addr} {n : Nat} {f : Nat → Int} (h : U32s w p n f) (hb : Below w.heap.size w w') : U32s w' p n f := by
  rcases h with h | ⟨b, o, e, hl, hc⟩
  · exact .inl h
  · refine .inr ⟨b, o, e, Nat.lt_of_lt_of_le hl hb.size, fun k hk => ?_⟩
    rw [hb.cell (p := ⟨b, o + k, none⟩) hl]
    exact hc k hk
theorem U32s.take {w : World} {p : Option Addr} {n m : Nat} {f : Nat → Int} (h : U32s w p n f) (hm : m ≤ n) : U32s w p m f := by
  rcases h with h | ⟨b, o, e, hl, hc⟩
  · exact .inl (by omega)
  · exact .inr ⟨b, o, e, hl, fun k hk => hc k (by omega)⟩
def joinF (s : Int) (f : Nat → Int) : Nat → Int
  | 0 => s
  | k + 1 => orU (joinF s f k) (f k)
theorem in_join {s : Int} {f : Nat → Int} {n : Nat} (hs : inU s) (hf : ∀ k, k < n → inU (f k)) : ∀ k, k ≤ n → inU (joinF s f k)
  | 0, _ => hs
  | k + 1, h => in_orU (in_join hs hf k (by omega)) (hf k (by omega))
theorem Fold_any (s : Int) (p : Option Addr) (n c : Nat) (f : Nat → Int) (hs : inU s) (hf : ∀ k, k < n → inU (f k)) (hn : n ≤ 9223372036854775807) (w : World) (hp : U32s w p n f) :
    Calls Try.prog 16 #[.func (.func 17) #[] #[], .int .u32 s, .slice p n c] w fun e w' => e = .returned (.int .u32 (joinF s f n)) ∧ w' = w := by
  have HS := Lib.hid hs
  have HF := Lib.hid hf
  have HN := Lib.hid hn
  have HP := Lib.hid hp
  clear hs hf hn hp
  go_enter Try.func16, Try.ntmps16
  go_wp2_with (fail)
  go_loopw [1, 11] (fun sv iv wr => ∃ (k : Nat), k ≤ n ∧ sv = .int .u32 (joinF s f k) ∧ iv = .int .i64 k ∧ w = wr) (fun _ iv _ => (n - (intOf iv).toNat))
  case atStart => exact ⟨0, Nat.zero_le _, rfl, rfl, rfl⟩
  case round =>
    obtain ⟨k, hk, rfl, rfl, rfl⟩ := hrel
    by_cases h : k < n
    · have wk : IntKind.i64.wrap ((k : Int) + 1) = (k : Int) + 1 := IntWalk.i64_in _ (by have := HN.out; omega)
      obtain ⟨b, o, rfl, hl, hc⟩ := HP.out.resolve_left (by omega)
      have c0 := hc k h
      have e1 : decide (k < n) = true := decide_eq_true h
      have HK := Lib.hid h
      have UA := Lib.hid (Union_any (joinF s f k) (f k) (in_join HS.out HF.out k hk) (HF.out k h) w)
      clear hk hc
      go_wp2_with (fail)
      go_at_call 17
      refine UA.out.mono ?_
      rintro e w1 ⟨rfl, hw⟩
      obtain rfl : w = w1 := hw.symm
      go_wp2_with (fail)
      go_roundw
      case rel => exact ⟨k + 1, HK.out, rfl, by go_num, (by first | rfl | trivial)⟩
      case measure => (have := HK.out; simp [intOf]; omega)
    · obtain rfl : k = n := by omega
      have e1 : decide (k < k) = false := decide_eq_false h
      clear hk
      go_wp2_with (fail)
      go_ret
      exact ⟨rfl, rfl⟩
theorem Join_any (p : Option Addr) (n c : Nat) (f : Nat → Int) (hf : ∀ k, k < n → inU (f k)) (hn : n ≤ 9223372036854775807) (w : World) (hp : U32s w p n f) :
    Calls Try.prog 8 #[.slice p n c] w fun e w' => e = .returned (.int .u32 (joinF 0 f n)) ∧ w' = w := by
  have FA := Lib.hid (Fold_any 0 p n c f ⟨Int.le_refl _, by decide⟩ hf hn w hp)
  clear hf hn hp
  generalize joinF 0 f n = J at *
  go_enter Try.func8, Try.ntmps8
  go_wp2_with (fail)
  go_at_call 16
  refine FA.out.mono ?_
  rintro e w1 ⟨rfl, hw⟩
  obtain rfl : w = w1 := hw.symm
  go_wp2_with (fail)
  go_ret
  exact ⟨rfl, rfl⟩
def two (a b : Int) (k : Nat) : Int := if k = 0 then a else b
def three (a b c : Int) (k : Nat) : Int := if k = 0 then a else if k = 1 then b else c
theorem Join_two (b : Nat) (x y : Int) (hx : inU x) (hy : inU y) (w : World) (h0 : w.cell? ⟨b, 0, none⟩ = some (.int .u32 x)) (h1 : w.cell? ⟨b, 1, none⟩ = some (.int .u32 y)) (hb : b < w.heap.size) :
    Calls Try.prog 8 #[.slice (some ⟨b, 0, none⟩) 2 2] w fun e w' => e = .returned (.int .u32 (orU x y)) ∧ w' = w := by
  have h := Join_any (some ⟨b, 0, none⟩) 2 2 (two x y) (fun k hk => by unfold two; split <;> assumption) (by decide) w (.inr ⟨b, 0, rfl, hb, fun k hk => by
    match k, hk with
    | 0, _ => exact h0
    | 1, _ => exact h1⟩)
  have e : joinF 0 (two x y) 2 = orU x y := by
    show orU (orU 0 x) y = _
    congr 1
    unfold orU
    have := hx.1
    simp
    omega
  rwa [e] at h
theorem Join_three (b : Nat) (x y z : Int) (hx : inU x) (hy : inU y) (hz : inU z) (w : World) (h0 : w.cell? ⟨b, 0, none⟩ = some (.int .u32 x)) (h1 : w.cell? ⟨b, 1, none⟩ = some (.int .u32 y)) (h2 : w.cell? ⟨b, 2, none⟩ = some (.int .u32 z)) (hb : b < w.heap.size) :
    Calls Try.prog 8 #[.slice (some ⟨b, 0, none⟩) 3 3] w fun e w' => e = .returned (.int .u32 (orU (orU x y) z)) ∧ w' = w := by
  have h := Join_any (some ⟨b, 0, none⟩) 3 3 (three x y z) (fun k hk => by unfold three; split; assumption; split <;> assumption) (by decide) w (.inr ⟨b, 0, rfl, hb, fun k hk => by
    match k, hk with
    | 0, _ => exact h0
    | 1, _ => exact h1
    | 2, _ => exact h2⟩)
  have e : joinF 0 (three x y z) 3 = orU (orU x y) z := by
    show orU (orU (orU 0 x) y) z = _
    congr 2
    unfold orU
    have := hx.1
    simp
    omega
  rwa [e] at h
theorem works_any (w : World) : Calls Try.prog 11 #[] w fun e w' => e = .returned (.bool true) ∧ Below w.heap.size w w' := by
  have i1 : inU 1 := ⟨by decide, by decide⟩
  have i2 : inU 2 := ⟨by decide, by decide⟩
  have i4 : inU 4 := ⟨by decide, by decide⟩
  have i5 : inU 5 := ⟨by decide, by decide⟩
  have e5 : orU 1 4 = 5 := by decide
  have b1 : belowU 1 5 = true := by decide
  have b2 : belowU 2 5 = false := by decide
  go_enter Try.func11, Try.ntmps11
  go_wp2_with (fail)
  go_at_call 8
  refine (Join_two w.heap.size 1 4 i1 i4 _ ?_ ?_ ?_).mono ?_
  · simp [go_sem]
  · simp [go_sem]
  · simp [go_sem]
  rintro e w1 ⟨rfl, hw⟩
  rw [e5]
  have hB : Below w.heap.size w w1 := by subst hw; exact Below.al (Below.refl _ _)
  clear hw
  go_wp2_with (fail)
  go_at_call 10
  refine (Below_any 1 5 i1 i5 _).mono ?_
  rintro e w2 ⟨rfl, hw⟩
  obtain rfl : w1 = w2 := hw.symm
  rw [b1]
  go_wp2_with (fail)
  go_at_call 10
  refine (Below_any 2 5 i2 i5 _).mono ?_
  rintro e w2 ⟨rfl, hw⟩
  obtain rfl : w1 = w2 := hw.symm
  rw [b2]
  go_wp2_with (fail)
  go_ret
  exact ⟨rfl, hB⟩
end Go.Proofs.Ytmbnmbjlggbfkaa
