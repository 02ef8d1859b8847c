/- The document's numbers: Less. -/
import Derived.Test.YtlfchlholabijaaRG
namespace Go.Proofs.Ytlfchlholabijaa
set_option linter.unusedVariables false
set_option maxRecDepth 2000
set_option linter.unusedSimpArgs false
open Go.RowKit
attribute [local go_sem] setCell_twice setCell_pair

theorem NumR.sign {w : World} {b : Bool} {p : Option Addr} {n c : Nat} {z : Int} (h : NumR w (.agg #[.bool b, .slice p n c]) z) :
    (n = 0 ∧ z = 0) ∨ (n ≠ 0 ∧ b = true ∧ z < 0) ∨ (n ≠ 0 ∧ b = false ∧ 0 < z) := by
  obtain ⟨b', s, ds, e, hs, hd, hc, _, rfl⟩ := h
  cases e
  have hl := hs.len.1
  by_cases h0 : n = 0
  · have : ds = [] := List.length_eq_zero_iff.1 (by omega)
    subst this
    refine .inl ⟨h0, ?_⟩
    cases b <;> simp [val]
  · have hp : 0 < val ds := by
      rcases hc with rfl | hc
      · simp at hl; omega
      obtain ⟨k, hk⟩ : ∃ k, ds.length = k + 1 := ⟨ds.length - 1, by omega⟩
      rw [val_V ds (k + 1) (by omega), V]
      rw [hk, Nat.add_sub_cancel] at hc
      have h1 := V_lt (fun i => ds.getD i 0) k hd
      have h2 := hd k
      have h3 : (0 : Int) < 65536 ^ k := Int.pow_pos (by omega)
      have h4 : 1 * (65536 : Int) ^ k ≤ ds.getD k 0 * 65536 ^ k := Int.mul_le_mul_of_nonneg_right (by omega) (by omega)
      omega
    cases b
    · exact .inr (.inr ⟨h0, rfl, by simpa using hp⟩)
    · exact .inr (.inl ⟨h0, rfl, by simp; omega⟩)

theorem less_core (ba bb : Bool) (p q : Option Addr) (n m c d : Nat) (y z r : Int) (w : World)
    (mi : Hid (∀ wx, Below w.heap.size w wx → Calls Try.prog 31 #[.agg #[.bool bb, .slice q m d]] wx (NumE wx y)))
    (su : Hid (∀ wx v, Below w.heap.size w wx → NumR wx v y → Calls Try.prog 26 #[.agg #[.bool ba, .slice p n c], v] wx (NumE wx z)))
    (hr : Hid (z = 0 ∧ r = 0 ∨ z < 0 ∧ r = -1 ∨ 0 < z ∧ r = 1)) :
    Calls Try.prog 27 #[.agg #[.bool ba, .slice p n c], .agg #[.bool bb, .slice q m d]] w (fun e w' => e = .returned (.int .i64 r) ∧ Below w.heap.size w w') := by
  go_enter Try.func27, Try.ntmps27
  go_wp2_with fail
  have hB0 : Below w.heap.size w ((w.alloc (.cells #[.bool ba, .slice p n c] 29)).alloc (.cells #[.bool bb, .slice q m d] 29)) := (by repeat (first | exact Below.refl _ _ | assumption | refine below_drewN ?_ _ | refine Below.drew ?_ | refine Below.alloc ?_ (by first | omega | (simp; done) | (simp; omega)) _ | refine Below.setCell ?_ (by first | (simp; done) | (simp; omega)) _))
  have k0 : ((w.alloc (.cells #[.bool ba, .slice p n c] 29)).alloc (.cells #[.bool bb, .slice q m d] 29)).cell? ⟨w.heap.size, 0, none⟩ = some (.bool ba) := by simp [go_sem]
  have k1 : ((w.alloc (.cells #[.bool ba, .slice p n c] 29)).alloc (.cells #[.bool bb, .slice q m d] 29)).cell? ⟨w.heap.size, 1, none⟩ = some (.slice p n c) := by simp [go_sem]
  have l0 : ((w.alloc (.cells #[.bool ba, .slice p n c] 29)).alloc (.cells #[.bool bb, .slice q m d] 29)).cell? ⟨w.heap.size + 1, 0, none⟩ = some (.bool bb) := by simp [go_sem]
  have l1 : ((w.alloc (.cells #[.bool ba, .slice p n c] 29)).alloc (.cells #[.bool bb, .slice q m d] 29)).cell? ⟨w.heap.size + 1, 1, none⟩ = some (.slice q m d) := by simp [go_sem]
  have hz0 : w.heap.size + 1 < ((w.alloc (.cells #[.bool ba, .slice p n c] 29)).alloc (.cells #[.bool bb, .slice q m d] 29)).heap.size := by simp
  generalize (w.alloc (.cells #[.bool ba, .slice p n c] 29)).alloc (.cells #[.bool bb, .slice q m d] 29) = W0 at *
  obtain ⟨B, hBe⟩ : ∃ B, B = w.heap.size + 1 := ⟨_, rfl⟩
  obtain ⟨A, hAe⟩ : ∃ A, A = w.heap.size := ⟨_, rfl⟩
  have hA : A < W0.heap.size := by omega
  have hB : B < W0.heap.size := by omega
  rw [← hBe] at l0 l1 ⊢
  rw [← hAe] at k0 k1 ⊢
  have nA := Nat.ne_of_lt hA
  have nB := Nat.ne_of_lt hB
  have hAe' := Lib.hid hAe
  have hBe' := Lib.hid hBe
  have hS0 := hB0.size
  clear hAe hBe hz0
  go_region_held3 (fun w' => w'.cell? ⟨A, 0, none⟩ = some (.bool ba) ∧ w'.cell? ⟨A, 1, none⟩ = some (.slice p n c) ∧ w'.cell? ⟨B, 0, none⟩ = some (.bool bb) ∧ w'.cell? ⟨B, 1, none⟩ = some (.slice q m d)) (first | go_keep | exact ⟨by assumption, by assumption, by assumption, by assumption⟩ | (refine ⟨?_, ?_, ?_, ?_⟩ <;> simp [go_sem, *]; done)) (first | (go_at_call 31; (with_reducible refine (mi.out _ ?hx).mono ?_); (case hx => exact (by repeat (first | exact Below.refl _ _ | assumption | refine below_drewN ?_ _ | refine Below.drew ?_ | refine Below.alloc ?_ (by first | omega | (simp; done) | (simp; omega)) _ | refine Below.setCell ?_ (by first | (simp; done) | (simp; omega)) _))); rintro e w1 ⟨v1, rfl, hv1, h1⟩; have hz1 := h1.size; (try simp at hz1); have hA1 : A < w1.heap.size := (by omega); have hB1 : B < w1.heap.size := (by omega); have nA1 := Nat.ne_of_lt hA1; have nB1 := Nat.ne_of_lt hB1; have k0a := h1.cell (p := ⟨A, 0, none⟩) (by first | omega | (simp; done) | (simp; omega)); have k1a := h1.cell (p := ⟨A, 1, none⟩) (by first | omega | (simp; done) | (simp; omega)); (try simp [go_sem, k0, k1, nA, nB] at k0a k1a); have l0a := h1.cell (p := ⟨B, 0, none⟩) (by first | omega | (simp; done) | (simp; omega)); have l1a := h1.cell (p := ⟨B, 1, none⟩) (by first | omega | (simp; done) | (simp; omega)); (try simp [go_sem, l0, l1, nA, nB] at l0a l1a); (try (have zx : W0.heap.size < w1.heap.size := (by omega); have nx := Nat.ne_of_lt zx; have x0a := h1.cell (p := ⟨W0.heap.size, 0, none⟩) (by first | omega | (simp; done) | (simp; omega)); have x1a := h1.cell (p := ⟨W0.heap.size, 1, none⟩) (by first | omega | (simp; done) | (simp; omega)); have y0a := h1.frozen (p := ⟨W0.heap.size, 0, none⟩) (by first | omega | (simp; done) | (simp; omega)); have y1a := h1.frozen (p := ⟨W0.heap.size, 1, none⟩) (by first | omega | (simp; done) | (simp; omega)); (try simp [go_sem] at x0a x1a y0a y1a))); have b1 : Below w.heap.size w w1 := below_step (by repeat (first | exact Below.refl _ _ | assumption | refine below_drewN ?_ _ | refine Below.drew ?_ | refine Below.alloc ?_ (by first | omega | (simp; done) | (simp; omega)) _ | refine Below.setCell ?_ (by first | (simp; done) | (simp; omega)) _)) h1; have hS1 := b1.size; have hv1' := Lib.hid hv1; clear hv1 h1) | (go_at_call 26; (refine (su.out _ v1 ?hx ?hy).mono ?_); (case hx => exact (by repeat (first | exact Below.refl _ _ | assumption | refine below_drewN ?_ _ | refine Below.drew ?_ | refine Below.alloc ?_ (by first | omega | (simp; done) | (simp; omega)) _ | refine Below.setCell ?_ (by first | (simp; done) | (simp; omega)) _))); (case hy => exact NumR.later (B := w1.heap.size) hv1'.out (by repeat (first | exact Below.refl _ _ | assumption | refine below_drewN ?_ _ | refine Below.drew ?_ | refine Below.alloc ?_ (by first | omega | (simp; done) | (simp; omega)) _ | refine Below.setCell ?_ (by first | (simp; done) | (simp; omega)) _)) (Nat.le_refl _)); rintro e w2 ⟨v2, rfl, hv2, h2⟩; obtain ⟨b', p', n', c', rfl⟩ := hv2.form; have hsg := Lib.hid hv2.sign; clear hv2; have hz2 := h2.size; (try simp at hz2); have hA2 : A < w2.heap.size := (by omega); have hB2 : B < w2.heap.size := (by omega); have nA2 := Nat.ne_of_lt hA2; have nB2 := Nat.ne_of_lt hB2; have k0b := h2.cell (p := ⟨A, 0, none⟩) (by first | omega | (simp; done) | (simp; omega)); have k1b := h2.cell (p := ⟨A, 1, none⟩) (by first | omega | (simp; done) | (simp; omega)); (try simp [go_sem, k0a, k1a, nA1, nB1] at k0b k1b); have l0b := h2.cell (p := ⟨B, 0, none⟩) (by first | omega | (simp; done) | (simp; omega)); have l1b := h2.cell (p := ⟨B, 1, none⟩) (by first | omega | (simp; done) | (simp; omega)); (try simp [go_sem, l0a, l1a, nA1, nB1] at l0b l1b); (try (have zy : W0.heap.size < w2.heap.size := (by omega); have x0b := h2.cell (p := ⟨W0.heap.size, 0, none⟩) (by first | omega | (simp; done) | (simp; omega)); have x1b := h2.cell (p := ⟨W0.heap.size, 1, none⟩) (by first | omega | (simp; done) | (simp; omega)); have y0b := h2.frozen (p := ⟨W0.heap.size, 0, none⟩) (by first | omega | (simp; done) | (simp; omega)); have y1b := h2.frozen (p := ⟨W0.heap.size, 1, none⟩) (by first | omega | (simp; done) | (simp; omega)); (try simp [go_sem, x0a, x1a, y0a, y1a, nx] at x0b x1b y0b y1b))); (try (have zz : w1.heap.size < w2.heap.size := (by omega); have x0c := h2.cell (p := ⟨w1.heap.size, 0, none⟩) (by first | omega | (simp; done) | (simp; omega)); have x1c := h2.cell (p := ⟨w1.heap.size, 1, none⟩) (by first | omega | (simp; done) | (simp; omega)); have y0c := h2.frozen (p := ⟨w1.heap.size, 0, none⟩) (by first | omega | (simp; done) | (simp; omega)); have y1c := h2.frozen (p := ⟨w1.heap.size, 1, none⟩) (by first | omega | (simp; done) | (simp; omega)); (try simp [go_sem] at x0c x1c y0c y1c))); have b2 : Below w.heap.size w w2 := below_step (by repeat (first | exact Below.refl _ _ | assumption | refine below_drewN ?_ _ | refine Below.drew ?_ | refine Below.alloc ?_ (by first | omega | (simp; done) | (simp; omega)) _ | refine Below.setCell ?_ (by first | (simp; done) | (simp; omega)) _)) h2; have hS2 := b2.size))
  all_goals
    clear mi su hv1' k0 k1 l0 l1 k0a k1a l0a l1a k0b k1b l0b l1b b1
    have hr' := hr.out
    rcases hsg.out with ⟨e1, e2⟩ | ⟨e1, e2, e3⟩ | ⟨e1, e2, e3⟩
    · obtain rfl : r = 0 := by omega
      subst e1
      clear hsg hr hr' e2
      go_wp2
      go_ret
      exact ⟨rfl, (by repeat (first | exact Below.refl _ _ | assumption | refine below_drewN ?_ _ | refine Below.drew ?_ | refine Below.alloc ?_ (by first | omega | (simp; done) | (simp; omega)) _ | refine Below.setCell ?_ (by first | (simp; done) | (simp; omega)) _))⟩
    · obtain rfl : r = -1 := by omega
      have e4 : ((n' : Int) == 0) = false := by simpa using e1
      subst e2
      clear hsg hr hr' e3 e1
      go_wp2
      go_ret
      exact ⟨rfl, (by repeat (first | exact Below.refl _ _ | assumption | refine below_drewN ?_ _ | refine Below.drew ?_ | refine Below.alloc ?_ (by first | omega | (simp; done) | (simp; omega)) _ | refine Below.setCell ?_ (by first | (simp; done) | (simp; omega)) _))⟩
    · obtain rfl : r = 1 := by omega
      have e4 : ((n' : Int) == 0) = false := by simpa using e1
      subst e2
      clear hsg hr hr' e3 e1
      go_wp2
      go_ret
      exact ⟨rfl, (by repeat (first | exact Below.refl _ _ | assumption | refine below_drewN ?_ _ | refine Below.drew ?_ | refine Below.alloc ?_ (by first | omega | (simp; done) | (simp; omega)) _ | refine Below.setCell ?_ (by first | (simp; done) | (simp; omega)) _))⟩

/-- Less: which of two numbers is less -/
theorem less_any (u v : Value) (y z : Int) (w : World) (hu : NumR w u y) (hv : NumR w v z) (hy : (y.natAbs : Int) < BIG) (hz : (z.natAbs : Int) < BIG) :
    Calls Try.prog 27 #[u, v] w (fun e w' => e = .returned (.int .i64 (cmpI y z)) ∧ Below w.heap.size w w') := by
  obtain ⟨ba, p, n, c, rfl⟩ := hu.form
  obtain ⟨bb, q, m, d, rfl⟩ := hv.form
  refine less_core ba bb p q n m c d (-z) (y + -z) _ w (fun wx hx => minus_any _ _ wx (hv.later hx (Nat.le_refl _)))
    (fun wx v hx hn => refSum_any _ _ _ _ wx (hu.later hx (Nat.le_refl _)) hn hy (by omega)) ?_
  show _ ∨ _
  unfold cmpI
  split
  · omega
  · split <;> omega
end Go.Proofs.Ytlfchlholabijaa
