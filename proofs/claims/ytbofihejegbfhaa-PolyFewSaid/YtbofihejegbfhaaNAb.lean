/- Numbers only: few factors make one difference. -/
import Derived.Test.YtbofihejegbfhaaNA
namespace Go.Proofs.Ytbofihejegbfhaa
set_option linter.unusedVariables false
set_option maxRecDepth 2000
def PI : Int := 1361129467683753853853498429727072845819
theorem prime_int {x y : Int} (h : (x * y) % PI = 0) : x % PI = 0 ∨ y % PI = 0 := by
  have h1 : PI ∣ x * y := Int.dvd_of_emod_eq_zero h
  have h2 : (1361129467683753853853498429727072845819 : Nat) ∣ x.natAbs * y.natAbs := by
    rw [← Int.natAbs_mul]
    exact Int.natAbs_dvd_natAbs.2 h1
  rcases prm_mul prm_P h2 with h3 | h3
  · exact .inl (Int.emod_eq_zero_of_dvd (Int.natAbs_dvd_natAbs.1 h3))
  · exact .inr (Int.emod_eq_zero_of_dvd (Int.natAbs_dvd_natAbs.1 h3))
theorem small_zero {x : Int} (h : x % PI = 0) (h1 : -PI < x) (h2 : x < PI) : x = 0 := by unfold PI at *; omega
/-- a root of c2 r² + c1 r = e -/
def Root (c2 c1 e r : Int) : Prop := (c2 * (r * r) + c1 * r - e) % PI = 0
theorem root_two {c2 c1 e r s : Int} (hr : Root c2 c1 e r) (hs : Root c2 c1 e s) (hne : r ≠ s) (b1 : -PI < r - s) (b2 : r - s < PI) : (c2 * (r + s) + c1) % PI = 0 := by
  unfold Root at *
  have h : ((r - s) * (c2 * (r + s) + c1)) % PI = 0 := by
    have e1 : (r - s) * (c2 * (r + s) + c1) = (c2 * (r * r) + c1 * r - e) - (c2 * (s * s) + c1 * s - e) := by grind
    rw [e1]
    generalize c2 * (r * r) + c1 * r - e = A at *
    generalize c2 * (s * s) + c1 * s - e = B at *
    unfold PI at *; omega
  rcases prime_int h with h | h
  · have := small_zero h b1 b2; omega
  · exact h
theorem root_three {c2 c1 e r s t : Int} (hr : Root c2 c1 e r) (hs : Root c2 c1 e s) (ht : Root c2 c1 e t) (h1 : r ≠ s) (h2 : r ≠ t) (h3 : s ≠ t) (hc : -PI < c2 ∧ c2 < PI) (br : 0 ≤ r ∧ r < PI) (bs : 0 ≤ s ∧ s < PI) (bt : 0 ≤ t ∧ t < PI) : c2 = 0 := by
  have p1 := root_two hr hs h1 (by omega) (by omega)
  have p2 := root_two hr ht h2 (by omega) (by omega)
  have h : (c2 * (s - t)) % PI = 0 := by
    have e1 : c2 * (s - t) = (c2 * (r + s) + c1) - (c2 * (r + t) + c1) := by grind
    rw [e1]
    generalize c2 * (r + s) + c1 = A at *
    generalize c2 * (r + t) + c1 = B at *
    unfold PI at *; omega
  rcases prime_int h with h | h
  · exact small_zero h hc.1 hc.2
  · have := small_zero h (by omega) (by omega); omega
/-- among distinct numbers at most m are roots -/
theorem roots_few (c2 c1 e : Int) (m : Nat) (hm : 1 ≤ m) (h2 : c2 ≠ 0 → 2 ≤ m) (h0 : ¬ (c2 = 0 ∧ c1 = 0)) (b2 : -PI < c2 ∧ c2 < PI) (b1 : -PI < c1 ∧ c1 < PI) (l : List Nat) (hd : l.Nodup) (hl : ∀ r ∈ l, (r : Int) < PI ∧ Root c2 c1 e r) : l.length ≤ m := by
  match l, hd, hl with
  | [], _, _ => exact Nat.zero_le _
  | [_], _, _ => exact hm
  | [x, y], hd, hl =>
    by_cases hc : c2 = 0
    · exfalso
      have hx := hl x (by simp); have hy := hl y (by simp)
      have ne : (x : Int) ≠ (y : Int) := fun h => by
        have : x = y := Int.ofNat_inj.1 h
        subst this
        simp at hd
      have := root_two hx.2 hy.2 ne (by omega) (by omega)
      rw [hc] at this
      have h3 := small_zero (x := c1) (by rw [Int.zero_mul, Int.zero_add] at this; exact this) b1.1 b1.2
      exact h0 ⟨hc, h3⟩
    · exact h2 hc
  | x :: y :: z :: rest, hd, hl =>
    exfalso
    have hx := hl x (by simp); have hy := hl y (by simp); have hz := hl z (by simp)
    simp only [List.nodup_cons, List.mem_cons, not_or] at hd
    have n1 : (x : Int) ≠ (y : Int) := fun h => hd.1.1 (Int.ofNat_inj.1 h)
    have n2 : (x : Int) ≠ (z : Int) := fun h => hd.1.2.1 (Int.ofNat_inj.1 h)
    have n3 : (y : Int) ≠ (z : Int) := fun h => hd.2.1.1 (Int.ofNat_inj.1 h)
    have hc := root_three hx.2 hy.2 hz.2 n1 n2 n3 b2 (by omega) (by omega) (by omega)
    have := root_two hx.2 hy.2 n1 (by omega) (by omega)
    rw [hc] at this
    have h3 := small_zero (x := c1) (by rw [Int.zero_mul, Int.zero_add] at this; exact this) b1.1 b1.2
    exact h0 ⟨hc, h3⟩
theorem classes (m : Nat) : ∀ (B : Nat) (l : List Nat) (t : Nat → Nat), (∀ x ∈ l, t x < B) → (∀ i, i < B → (l.filter fun x => t x == i).length ≤ m) → l.length ≤ B * m
  | 0, l, t, h, _ => by
    cases l with
    | nil => simp
    | cons x r => exact absurd (h x (by simp)) (by omega)
  | B + 1, l, t, h, hc => by
    have e : ∀ l : List Nat, l.length = (l.filter fun x => t x == B).length + (l.filter fun x => !(t x == B)).length := by
      intro l
      induction l with
      | nil => rfl
      | cons x r ih => simp only [List.filter_cons]; cases (t x == B) <;> simp <;> omega
    rw [e l, Nat.succ_mul]
    have h1 := hc B (by omega)
    have h2 := classes m B (l.filter fun x => !(t x == B)) t (fun x hx => by
      have := List.mem_filter.1 hx
      have h3 := h x this.1
      have h4 : t x ≠ B := by simpa using this.2
      omega) (fun i hi => by
        refine Nat.le_trans ?_ (hc i (by omega))
        rw [List.filter_filter]
        apply Nat.le_of_eq
        congr 1
        apply List.filter_congr
        intro x _
        by_cases q : t x = i
        · simp [q]; omega
        · simp [q])
    omega
/-- FEW KEYS FOR ONE DIFFERENCE: among distinct factors at most 8 m make accumulators that differ by d modulo 2^128 -/
theorem few_num (c2 c1 : Int) (d m : Nat) (hdl : d < 340282366920938463463374607431768211456) (hm : 1 ≤ m) (h2 : c2 ≠ 0 → 2 ≤ m) (h0 : ¬ (c2 = 0 ∧ c1 = 0)) (b2 : -PI < c2 ∧ c2 < PI) (b1 : -PI < c1 ∧ c1 < PI) (Ha Hb : Nat → Nat) (l : List Nat) (hd : l.Nodup)
    (hl : ∀ r ∈ l, (r : Int) < PI ∧ (Ha r : Int) < PI ∧ (Hb r : Int) < PI ∧ ((Ha r : Int) - Hb r - (c2 * ((r : Int) * r) + c1 * r)) % PI = 0 ∧ ((Ha r : Int) - Hb r - d) % 340282366920938463463374607431768211456 = 0) : l.length ≤ 8 * m := by
  refine classes m 8 l (fun r => (((Ha r : Int) - Hb r - d) / 340282366920938463463374607431768211456 + 4).toNat) (fun r hr => ?_) (fun i hi => ?_)
  · obtain ⟨_, h1, h2, _, h4⟩ := hl r hr
    unfold PI at *
    omega
  · refine roots_few c2 c1 (d + 340282366920938463463374607431768211456 * ((i : Int) - 4)) m hm h2 h0 b2 b1 _ (hd.filter _) (fun r hr => ?_)
    have hq := List.mem_filter.1 hr
    obtain ⟨h1, h3, h4, h5, h6⟩ := hl r hq.1
    refine ⟨h1, ?_⟩
    have h7 : (((Ha r : Int) - Hb r - d) / 340282366920938463463374607431768211456 + 4).toNat = i := by simpa using hq.2
    unfold Root
    have na : (0 : Int) ≤ (Ha r : Int) := Int.natCast_nonneg _
    have nb : (0 : Int) ≤ (Hb r : Int) := Int.natCast_nonneg _
    generalize c2 * ((r : Int) * r) + c1 * r = X at *
    generalize (Ha r : Int) = ha at *
    generalize (Hb r : Int) = hb at *
    obtain ⟨g, hg⟩ : ∃ g, (ha - hb - (d : Int)) / 340282366920938463463374607431768211456 = g := ⟨_, rfl⟩
    have e1 : ha - hb = d + 340282366920938463463374607431768211456 * g := by omega
    rw [hg] at h7
    clear hg h6
    have g4 : -4 ≤ g := by unfold PI at *; omega
    have gi : (i : Int) - 4 = g := by omega
    rw [gi, ← e1]
    clear h7 gi g4 e1 hi
    unfold PI at *
    omega
end Go.Proofs.Ytbofihejegbfhaa
