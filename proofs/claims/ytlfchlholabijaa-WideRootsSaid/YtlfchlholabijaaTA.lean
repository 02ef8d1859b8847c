/- The digits of a product, as the document's Times lays them: numbers only. -/
import Derived.Test.YtlfchlholabijaaRL
namespace Go.Proofs.Ytlfchlholabijaa
set_option linter.unusedVariables false
set_option maxRecDepth 2000
open Go.RowKit

def upF (f : Nat → Int) (i : Nat) (v : Int) : Nat → Int := fun j => if j = i then v else f j
theorem upF_same (f : Nat → Int) (i : Nat) (v : Int) : upF f i v i = v := by simp [upF]
theorem upF_other (f : Nat → Int) (i j : Nat) (v : Int) (h : j ≠ i) : upF f i v j = f j := by simp [upF, h]
theorem V_up (f : Nat → Int) (i n : Nat) (v : Int) (h : i < n) : V (upF f i v) n = V f n + (v - f i) * 65536 ^ i := by
  induction n with
  | zero => omega
  | succ n ih =>
    by_cases e : i = n
    · subst e
      rw [V, V, V_congr (upF f i v) f i (fun j hj => upF_other f i j v (by omega)), upF_same]
      grind
    · rw [V, V, ih (by omega), upF_other f i n v (by omega)]
      grind
theorem V_zeros (f : Nat → Int) (k n : Nat) (hk : k ≤ n) (h : ∀ j, k ≤ j → f j = 0) : V f n = V f k := by
  induction n with
  | zero => obtain rfl : k = 0 := by omega
            rfl
  | succ n ih =>
    by_cases e : k = n + 1
    · rw [e]
    · rw [V, ih (by omega), h n (by omega)]; simp

/-- an inner round's state: k digits of b done, carry c -/
structure TimI (b f0 f : Nat → Int) (ai : Int) (i k N : Nat) (c : Int) : Prop where
  dig : ∀ j, 0 ≤ f j ∧ f j ≤ 65535
  c0 : 0 ≤ c
  c1 : c ≤ 65535
  hi : ∀ j, i + k ≤ j → f j = f0 j
  sum : V f N + c * 65536 ^ (i + k) = V f0 N + ai * 65536 ^ i * V b k
theorem TimI.start (b f0 : Nat → Int) (ai : Int) (i N : Nat) (h : ∀ j, 0 ≤ f0 j ∧ f0 j ≤ 65535) : TimI b f0 f0 ai i 0 N 0 := ⟨h, by omega, by omega, fun _ _ => rfl, by simp [V]⟩
theorem mul_digits (a b : Int) (a0 : 0 ≤ a) (a1 : a ≤ 65535) (b0 : 0 ≤ b) (b1 : b ≤ 65535) : 0 ≤ a * b ∧ a * b ≤ 4294836225 :=
  ⟨Int.mul_nonneg a0 b0, Int.le_trans (Int.mul_le_mul a1 b1 b0 (by omega)) (by omega)⟩
theorem TimI.sumIn {b f0 f : Nat → Int} {ai : Int} {i k N : Nat} {c : Int} (h : TimI b f0 f ai i k N c) (a0 : 0 ≤ ai) (a1 : ai ≤ 65535) (hb : 0 ≤ b k ∧ b k ≤ 65535) :
    0 ≤ f (i + k) + ai * b k + c ∧ f (i + k) + ai * b k + c ≤ 4294967295 := by
  have m := mul_digits ai (b k) a0 a1 hb.1 hb.2
  have d := h.dig (i + k)
  have := h.c0; have := h.c1
  omega
theorem TimI.step {b f0 f : Nat → Int} {ai : Int} {i k N : Nat} {c : Int} (h : TimI b f0 f ai i k N c) (hN : i + k < N) (a0 : 0 ≤ ai) (a1 : ai ≤ 65535) (hb : 0 ≤ b k ∧ b k ≤ 65535) (x : Int) (hx : f (i + k) + ai * b k + c = x) :
    TimI b f0 (upF f (i + k) (x % 65536)) ai i (k + 1) N (x / 65536) := by
  have xs := h.sumIn a0 a1 hb
  rw [hx] at xs
  refine ⟨fun j => ?_, by omega, by omega, fun j hj => ?_, ?_⟩
  · by_cases e : j = i + k
    · rw [e, upF_same]; omega
    · rw [upF_other _ _ _ _ e]; exact h.dig j
  · rw [upF_other _ _ _ _ (by omega)]; exact h.hi j (by omega)
  · rw [V_up f (i + k) N _ hN, V]
    have hs := h.sum
    have e := Int.mul_ediv_add_emod x 65536
    rw [show i + (k + 1) = (i + k) + 1 by omega, Int.pow_succ]
    have e2 : (65536 : Int) ^ (i + k) = 65536 ^ i * 65536 ^ k := Int.pow_add _ _ _
    generalize x / 65536 = q at *
    generalize x % 65536 = r at *
    generalize V f N = F at *
    generalize V f0 N = G at *
    generalize V b k = B at *
    generalize f (i + k) = y at *
    generalize b k = z at *
    rw [e2] at hs ⊢
    generalize (65536 : Int) ^ i = P at *
    generalize (65536 : Int) ^ k = Q at *
    subst hx
    grind
theorem TimI.last {b f0 f : Nat → Int} {ai : Int} {i k N lb : Nat} (h : TimI b f0 f ai i k N 0) (hk : lb ≤ k) (hb : ∀ j, lb ≤ j → b j = 0) (a : Nat → Int) (ha : a i = ai) (hs : V f0 N = V a i * V b lb) :
    V f N = V a (i + 1) * V b lb := by
  have e := h.sum
  rw [V_zeros b lb k hk hb, hs] at e
  rw [V, ha]
  grind
theorem val_range (f : Nat → Int) (n : Nat) : val ((List.range n).map f) = V f n := by
  rw [val_V _ n (by simp)]
  exact V_congr _ _ _ fun j hj => by rw [List.getD_eq_getElem?_getD, List.getElem?_map, List.getElem?_range hj]; rfl
theorem range_getD (f : Nat → Int) (n i : Nat) : ((List.range n).map f).getD i 0 = if i < n then f i else 0 := by
  rw [List.getD_eq_getElem?_getD, List.getElem?_map]
  by_cases h : i < n
  · rw [List.getElem?_range h, if_pos h]; rfl
  · rw [List.getElem?_eq_none (by simpa using h), if_neg h]; rfl
theorem sign_mul (a b : Bool) (x y : Int) : (if (a != b) = true then -(x * y) else x * y) = (if a then -x else x) * (if b then -y else y) := by
  cases a <;> cases b <;> simp <;> grind

theorem and_16 (x : Int) (h0 : 0 ≤ x) (h1 : x ≤ 4294967295) : bits .and .i64 x 65535 = x % 65536 := by
  obtain ⟨n, rfl⟩ := Int.eq_ofNat_of_zero_le h0
  have h := and_nat n 65535 (by omega) (by omega)
  rw [show n &&& 65535 = n % 2 ^ 16 from Nat.and_two_pow_sub_one_eq_mod n 16] at h
  rw [show (65535 : Int) = ((65535 : Nat) : Int) by rfl, h]
  omega
end Go.Proofs.Ytlfchlholabijaa
