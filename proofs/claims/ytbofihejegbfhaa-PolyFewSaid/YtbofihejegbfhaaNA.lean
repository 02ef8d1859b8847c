/- Numbers only: 2^130 - 5 is a prime (Pocklington, by a pigeonhole: no order of a group is needed). -/
import Derived.Lib.Hide
namespace Go.Proofs.Ytbofihejegbfhaa
set_option linter.unusedVariables false
set_option maxRecDepth 2000
set_option exponentiation.threshold 300
/-- n numbers below m that differ: n is at most m -/
theorem pigeon : ∀ (m n : Nat) (f : Nat → Nat), (∀ i, i < n → f i < m) → (∀ i j, i < j → j < n → f i ≠ f j) → n ≤ m := by
  intro m
  induction m with
  | zero => intro n f h _; cases n with
    | zero => exact Nat.le_refl _
    | succ n => exact absurd (h 0 (by omega)) (by omega)
  | succ m ih =>
    intro n f h hd
    cases n with
    | zero => omega
    | succ n =>
      -- the last one's place is filled by m
      refine Nat.succ_le_succ (ih n (fun i => if f i = m then f n else f i) ?_ ?_)
      · intro i hi
        by_cases e : f i = m
        · simp only [e, if_true]
          have h1 := h n (by omega); have h2 := hd i n hi (by omega); omega
        · simp only [e, if_false]
          have h1 := h i (by omega); omega
      · intro i j hij hj
        have d1 := hd i j hij (by omega); have d2 := hd i n (by omega) (by omega); have d3 := hd j n hj (by omega)
        by_cases e : f i = m <;> by_cases e' : f j = m <;> simp [e, e'] <;> omega
def pm : Nat → Nat → Nat → Nat → Nat
  | 0, _, _, n => 1 % n
  | k + 1, b, e, n => let h := pm k (b * b % n) (e / 2) n; if e % 2 = 1 then h * b % n else h
theorem pow_mul_mod (a e n : Nat) : (a % n) ^ e % n = a ^ e % n := Nat.pow_mod a e n ▸ rfl
theorem pm_eq : ∀ (k b e n : Nat), e < 2 ^ k → pm k b e n = b ^ e % n
  | 0, b, e, n, h => by obtain rfl : e = 0 := by simpa using h
                        simp [pm]
  | k + 1, b, e, n, h => by
    have ih := pm_eq k (b * b % n) (e / 2) n (by rw [Nat.pow_succ] at h; omega)
    have hs : (b * b % n) ^ (e / 2) % n = b ^ (2 * (e / 2)) % n := by
      rw [← Nat.pow_mod, Nat.pow_mul, Nat.pow_two]
    unfold pm
    simp only [ih, hs]
    by_cases o : e % 2 = 1
    · rw [if_pos o, Nat.mod_mul_mod, ← Nat.pow_succ]
      congr 2; omega
    · rw [if_neg o]; congr 2; omega
theorem mod_of_dvd {d n a b : Nat} (hd : d ∣ n) (h : a % n = b % n) : a % d = b % d := by
  rw [← Nat.mod_mod_of_dvd a hd, h, Nat.mod_mod_of_dvd b hd]
/-- powers that are 1: so is the power of the gcd -/
theorem pow_gcd {b d : Nat} (hd : 1 < d) : ∀ (x y : Nat), b ^ x % d = 1 → b ^ y % d = 1 → b ^ Nat.gcd x y % d = 1 := by
  intro x y
  induction x, y using Nat.gcd.induction with
  | H0 y => intro _ h; rwa [Nat.gcd_zero_left]
  | H1 x y hx ih =>
    intro h1 h2
    rw [Nat.gcd_rec]
    refine ih ?_ h1
    have e : b ^ y = (b ^ x) ^ (y / x) * b ^ (y % x) := by rw [← Nat.pow_mul, ← Nat.pow_add, Nat.div_add_mod]
    have h3 : (b ^ x) ^ (y / x) % d = 1 := by
      rw [Nat.pow_mod, h1, Nat.one_pow, Nat.mod_eq_of_lt hd]
    rw [e, Nat.mul_mod, h3, Nat.one_mul, Nat.mod_mod] at h2
    exact h2
/-- each divisor of n is 1 or greater than F -/
theorem pock (n b F : Nat) (n1 : 1 < n) (h1 : b ^ F % n = 1) (_ : 0 < F)
    (hp : ∀ g, g ∣ F → g < F → ∃ c, b ^ g % n = c ∧ 1 ≤ c ∧ Nat.gcd (c - 1) n = 1) (d : Nat) (hd : d ∣ n) (h2 : 1 < d) : F < d := by
  have hb : b ^ F % d = 1 := by
    have := mod_of_dvd (a := b ^ F) (b := 1) hd (by rw [h1, Nat.mod_eq_of_lt n1])
    rwa [Nat.mod_eq_of_lt h2] at this
  -- no smaller power is 1
  have hn : ∀ k, 0 < k → k < F → b ^ k % d ≠ 1 := by
    intro k k0 kF hk
    have hg := pow_gcd h2 k F hk hb
    have g1 : Nat.gcd k F ∣ F := Nat.gcd_dvd_right _ _
    have g2 : Nat.gcd k F < F := Nat.lt_of_le_of_lt (Nat.le_of_dvd k0 (Nat.gcd_dvd_left _ _)) kF
    obtain ⟨c, hc, c1, hcg⟩ := hp _ g1 g2
    have hcd : c % d = 1 := by
      rw [← hc, Nat.mod_mod_of_dvd _ hd]; exact hg
    have : d ∣ c - 1 := by
      have e := Nat.div_add_mod c d
      exact ⟨c / d, by rw [hcd] at e; omega⟩
    have := Nat.dvd_gcd this hd
    rw [hcg] at this
    have := Nat.le_of_dvd (by omega) this
    omega
  have hm : F ≤ d - 1 := by
    refine pigeon (d - 1) F (fun i => b ^ i % d - 1) ?_ ?_
    · intro i _
      have := Nat.mod_lt (b ^ i) (show d > 0 by omega)
      show b ^ i % d - 1 < d - 1
      omega
    · intro i j hij hj
      have unit : ∀ i, i < F → 0 < b ^ i % d := by
        intro i hi
        refine Nat.pos_of_ne_zero fun h0 => ?_
        have : b ^ F = b ^ i * b ^ (F - i) := by rw [← Nat.pow_add]; congr 1; omega
        rw [this, Nat.mul_mod, h0, Nat.zero_mul, Nat.zero_mod] at hb
        omega
      intro e
      have e2 : b ^ i % d = b ^ j % d := by
        have := unit i (by omega); have := unit j hj
        have e' : b ^ i % d - 1 = b ^ j % d - 1 := e
        omega
      -- times b ^ (F - i)
      refine hn (j - i) (by omega) (by omega) ?_
      have e3 : b ^ j * b ^ (F - i) % d = 1 := by
        rw [Nat.mul_mod, ← e2, ← Nat.mul_mod, ← Nat.pow_add, show i + (F - i) = F by omega, hb]
      rw [← Nat.pow_add, show j + (F - i) = F + (j - i) by omega, Nat.pow_add, Nat.mul_mod, hb, Nat.one_mul, Nat.mod_mod] at e3
      exact e3
  omega
def Prm (n : Nat) : Prop := 1 < n ∧ ∀ d, d ∣ n → d = 1 ∨ d = n
theorem prm_of (n F : Nat) (n1 : 1 < n) (h : ∀ d, d ∣ n → 1 < d → F < d) (hF : n < (F + 1) * (F + 1)) : Prm n := by
  refine ⟨n1, fun d hd => ?_⟩
  obtain ⟨e, he⟩ := hd
  rcases Nat.lt_or_ge 1 d with h1 | h1
  · rcases Nat.lt_or_ge 1 e with h2 | h2
    · exfalso
      have a := h d ⟨e, he⟩ h1
      have b := h e ⟨d, by rw [he, Nat.mul_comm]⟩ h2
      have := Nat.mul_le_mul (show F + 1 ≤ d from a) (show F + 1 ≤ e from b)
      omega
    · right
      have : e = 0 ∨ e = 1 := by omega
      rcases this with rfl | rfl
      · omega
      · omega
  · left
    have : d = 0 ∨ d = 1 := by omega
    rcases this with rfl | rfl
    · omega
    · rfl
/-- by trying -/
theorem prm_try (n k : Nat) (n1 : 1 < n) (h : (List.range k).all (fun i => i < 2 || n % i != 0) = true) (hk : n < k * k) : Prm n := by
  cases k with
  | zero => omega
  | succ k =>
    refine prm_of n k n1 (fun d hd h1 => ?_) hk
    rcases Nat.lt_or_ge k d with h2 | h2
    · exact h2
    · exfalso
      have := List.all_eq_true.1 h d (List.mem_range.2 (by omega))
      simp at this
      rcases this with h3 | h3
      · omega
      · exact h3 (Nat.mod_eq_zero_of_dvd hd)
theorem dvd_prm {g q : Nat} (hq : Prm q) (h : g ∣ q) (hl : g < q) : g = 1 := by
  rcases hq.2 g h with h | h
  · exact h
  · omega
theorem gcd_prm {p k : Nat} (hp : Prm p) (h : ¬ p ∣ k) : Nat.gcd p k = 1 := by
  rcases hp.2 _ (Nat.gcd_dvd_left p k) with e | e
  · exact e
  · exact absurd (e ▸ Nat.gcd_dvd_right p k) h
theorem prm_mul {p a b : Nat} (hp : Prm p) (h : p ∣ a * b) : p ∣ a ∨ p ∣ b := by
  by_cases e : p ∣ a
  · exact .inl e
  · exact .inr (Nat.Coprime.dvd_of_dvd_mul_left (gcd_prm hp e) h)
theorem dvd_two {g p q : Nat} (hp : Prm p) (hq : Prm q) (h : g ∣ p * q) (hl : g < p * q) : g = 1 ∨ g = p ∨ g = q := by
  obtain ⟨e, he⟩ := h
  by_cases h1 : p ∣ g
  · obtain ⟨f, hf⟩ := h1
    have : q = f * e := by
      refine Nat.eq_of_mul_eq_mul_left (show 0 < p from by have := hp.1; omega) ?_
      rw [he, hf, Nat.mul_assoc]
    have hfq : f ∣ q := ⟨e, this⟩
    rcases hq.2 f hfq with h | h
    · subst h; right; left; omega
    · exfalso; subst h; rw [hf] at hl; omega
  · have hg := gcd_prm hp h1
    have : g ∣ q := Nat.Coprime.dvd_of_dvd_mul_left (Nat.coprime_comm.1 hg) ⟨e, he⟩
    rcases hq.2 g this with h | h
    · exact .inl h
    · exact .inr (.inr h)
theorem pock2 (n b F k : Nat) (n1 : 1 < n) (hk : F < 2 ^ k) (h1 : pm k b F n = 1) (hF : 0 < F)
    (hp : ∀ g, g ∣ F → g < F → ∃ c, pm k b g n = c ∧ 1 ≤ c ∧ Nat.gcd (c - 1) n = 1) (d : Nat) (hd : d ∣ n) (h2 : 1 < d) : F < d :=
  pock n b F n1 (pm_eq k b F n hk ▸ h1) hF (fun g hg hl => by rw [← pm_eq k b g n (by omega)]; exact hp g hg hl) d hd h2
theorem prm_f1 : Prm 37003 := prm_try 37003 200 (by decide) (by decide +kernel) (by decide)
theorem prm_f2 : Prm 221101 := prm_try 221101 480 (by decide) (by decide +kernel) (by decide)
theorem prm_r : Prm 4024685905107147541 := by
  refine prm_of _ 8181400303 (by decide) (pock2 _ 57753362597242690 8181400303 33 (by decide) (by decide) (by decide +kernel) (by decide) fun g hg hl => ?_) (by decide)
  rcases dvd_two prm_f1 prm_f2 (g := g) (by simpa using hg) (by simpa using hl) with rfl | rfl | rfl
  · exact ⟨57753362597242690, by decide +kernel, by decide, by decide +kernel⟩
  · exact ⟨2149990177795890953, by decide +kernel, by decide, by decide +kernel⟩
  · exact ⟨1883632063024075130, by decide +kernel, by decide, by decide +kernel⟩
theorem prm_q : Prm 897064739519922787230182993783 := by
  refine prm_of _ 4024685905107147541 (by decide) (pock2 _ 126414936993793177392508618240 4024685905107147541 62 (by decide) (by decide) (by decide +kernel) (by decide) fun g hg hl => ?_) (by decide)
  obtain rfl := dvd_prm prm_r hg hl
  exact ⟨126414936993793177392508618240, by decide +kernel, by decide, by decide +kernel⟩
/-- 2^130 - 5 is a prime -/
theorem prm_P : Prm 1361129467683753853853498429727072845819 := by
  refine prm_of _ 897064739519922787230182993783 (by decide) (pock2 _ 1319879086664424325515259710359424050403 897064739519922787230182993783 100 (by decide) (by decide) (by decide +kernel) (by decide) fun g hg hl => ?_) (by decide)
  obtain rfl := dvd_prm prm_q hg hl
  exact ⟨1319879086664424325515259710359424050403, by decide +kernel, by decide, by decide +kernel⟩
end Go.Proofs.Ytbofihejegbfhaa
