/- The document's numbers: Quotient. -/
import Derived.Test.YtlfchlholabijaaRL
namespace Go.Proofs.Ytlfchlholabijaa
set_option linter.unusedVariables false
set_option maxRecDepth 2000
open Go.RowKit
attribute [local go_sem] setCell_twice setCell_pair

/-- the box at block T holds the number z -/
def Boxed (w : World) (T : Nat) (z : Int) : Prop := ∃ b p n c, Kept [(T, 0, .bool b), (T, 1, .slice p n c)] w ∧ NumR w (.agg #[.bool b, .slice p n c]) z
theorem Boxed.step {w w' : World} {T : Nat} {z : Int} (h : Boxed w T z) (hb : Below w.heap.size w w') : Boxed w' T z := by
  obtain ⟨b, p, n, c, h1, h2⟩ := h
  exact ⟨b, p, n, c, h1.step hb, h2.later hb (Nat.le_refl _)⟩
theorem Kept.setOther2 {F : List (Nat × Nat × Value)} {X : World} {B : Nat} (h : Kept F X) (hn : ∀ t, t ∈ F → t.1 ≠ B) (u v : Value) : Kept F ((X.setCell ⟨B, 0, none⟩ u).setCell ⟨B, 1, none⟩ v) := (h.setOther hn u).setOther hn v
theorem Boxed.put {w : World} {T : Nat} {b0 b : Bool} {s0 : Value} {p : Option Addr} {n c : Nat} {z : Int} (hk : Kept [(T, 0, .bool b0), (T, 1, s0)] w) (h : NumR w (.agg #[.bool b, .slice p n c]) z) :
    Boxed ((w.setCell ⟨T, 0, none⟩ (.bool b)).setCell ⟨T, 1, none⟩ (.slice p n c)) T z := by
  have k0 := hk.get T 0 (.bool b0) (by simp)
  have k1 := hk.get T 1 s0 (by simp)
  refine ⟨b, p, n, c, .cons (by simpa using k0.1) ?_ (by simpa using k0.2.2) (.cons (by simpa using k0.1) ?_ (by simpa using k1.2.2) .nil), h.boxed k0.2.1 _ _⟩
  · rw [World.cell?_setCell_other _ _ _ _ (by simp)]; simp [go_sem, k0.2.1]
  · simp [go_sem, k1.2.1]
theorem Boxed.other {w : World} {T U : Nat} {b0 : Bool} {s0 : Value} {z : Int} (h : Boxed w T z) (hn : T ≠ U) (hk : Kept [(U, 0, .bool b0), (U, 1, s0)] w) (x y : Value) : Boxed ((w.setCell ⟨U, 0, none⟩ x).setCell ⟨U, 1, none⟩ y) T z := by
  obtain ⟨b, p, n, c, h1, h2⟩ := h
  exact ⟨b, p, n, c, h1.setOther2 (fun t ht => by simp at ht; rcases ht with rfl | rfl <;> exact hn) x y, h2.boxed (hk.get U 0 (.bool b0) (by simp)).2.1 x y⟩
theorem NumR.abs {w : World} {b : Bool} {s : Value} {z : Int} (h : NumR w (.agg #[.bool b, s]) z) : NumR w (.agg #[.bool false, s]) z.natAbs := by
  obtain ⟨b', s', ds, h1, h2, h3, h4, h5, h6⟩ := h
  obtain ⟨rfl, rfl⟩ : b' = b ∧ s' = s := by simpa [eq_comm] using h1
  have hv := val_nonneg ds fun i => (h3 i).1
  refine ⟨false, s', ds, rfl, h2, h3, h4, fun _ => rfl, ?_⟩
  rw [h6]
  cases b' <;> simp <;> omega

theorem SlR.boxed1 {w : World} {s : Value} {ds : List Int} {t : Nat} {b : Bool} (h : SlR w s ds) (ht : w.cell? ⟨t, 0, none⟩ = some (.bool b)) (x : Value) : SlR (w.setCell ⟨t, 0, none⟩ x) s ds := by
  rcases h with h | ⟨blk, n, cap, h1, h2, h3, h4, h5, h6⟩
  · exact .inl h
  · refine .inr ⟨blk, n, cap, h1, h2, h3, h4, by simpa using h5, fun i hi => ?_⟩
    have hne : ¬ t = blk := by
      rintro rfl
      have := h6 0 (by omega)
      rw [ht] at this
      cases this
    rw [World.cell?_setCell_other _ _ _ _ (addr_ne hne)]
    exact h6 i hi
theorem Boxed.other1 {w : World} {T U : Nat} {b0 : Bool} {s0 : Value} {z : Int} (h : Boxed w T z) (hn : T ≠ U) (hk : Kept [(U, 0, .bool b0), (U, 1, s0)] w) (x : Bool) : Boxed (w.setCell ⟨U, 0, none⟩ (.bool x)) T z := by
  obtain ⟨b, p, n, c, h1, b', s', ds, h2, h3, h4⟩ := h
  exact ⟨b, p, n, c, h1.setOther (fun t ht => by simp at ht; rcases ht with rfl | rfl <;> exact hn) _, b', s', ds, h2, h3.boxed1 (hk.get U 0 (.bool b0) (by simp)).2.1 _, h4⟩
/-- a number not below 0 is given a sign -/
theorem Boxed.sign {w : World} {L : Nat} {lb : Bool} {lp : Option Addr} {ln lc : Nat} {l : Int} (hk : Kept [(L, 0, .bool lb), (L, 1, .slice lp ln lc)] w) (h : NumR w (.agg #[.bool lb, .slice lp ln lc]) l) (l0 : 0 ≤ l) (s : Bool) (hs : ln = 0 → s = false) :
    Boxed (w.setCell ⟨L, 0, none⟩ (.bool s)) L (if s then -l else l) := by
  obtain ⟨b', s', ds, h1, h2, h3, h4, h5, h6⟩ := h
  obtain ⟨rfl, rfl⟩ : b' = lb ∧ s' = .slice lp ln lc := by simpa [eq_comm] using h1
  have k0 := hk.get L 0 (.bool b') (by simp)
  have k1 := hk.get L 1 (.slice lp ln lc) (by simp)
  have hl := h2.len.1
  have hv := val_nonneg ds fun i => (h3 i).1
  refine ⟨s, lp, ln, lc, .cons (by simpa using k0.1) (by simp [go_sem, k0.2.1]) (by simpa using k0.2.2) (.cons (by simpa using k0.1) ?_ (by simpa using k1.2.2) .nil), s, _, ds, rfl, h2.boxed1 k0.2.1 _, h3, h4, fun e => hs (by rw [← hl, e]; rfl), ?_⟩
  · rw [World.cell?_setCell_other _ _ _ _ (by simp)]; exact k1.2.1
  · have e : l = val ds := by
      cases b'
      · simpa using h6
      · simp at h6; omega
    rw [e]
theorem NumR.len_iff {w : World} {b : Bool} {p : Option Addr} {n c : Nat} {z : Int} (h : NumR w (.agg #[.bool b, .slice p n c]) z) : n = 0 ↔ z = 0 := by
  rcases h.sign with h | h | h <;> omega
theorem NumR.neg_iff {w : World} {b : Bool} {p : Option Addr} {n c : Nat} {z : Int} (h : NumR w (.agg #[.bool b, .slice p n c]) z) : b = true ↔ z < 0 := by
  have hs := h.sign
  obtain ⟨b', s', ds, h1, h2, h3, h4, h5, h6⟩ := h
  obtain ⟨rfl, rfl⟩ : b' = b ∧ s' = .slice p n c := by simpa [eq_comm] using h1
  have hl := h2.len.1
  rcases hs with ⟨h, h'⟩ | ⟨_, h, h'⟩ | ⟨_, h, h'⟩
  · have := h5 (List.length_eq_zero_iff.1 (by omega))
    rw [this]; simp; omega
  · simp [h, h']
  · rw [h]; simp; omega

def SMALL : Int := 65536 ^ 35

def QuoE (w : World) (a b : Int) (e : Ending) (w' : World) : Prop := ∃ v1 v2 q r, e = .returned (.tuple #[v1, v2]) ∧ NumR w' v1 q ∧ NumR w' v2 r ∧ a = b * q + r ∧ (0 < b → 0 ≤ r ∧ r < b) ∧ (b < 0 → b < r ∧ r ≤ 0) ∧ Below w.heap.size w w'

theorem small_big : 2 * SMALL < BIG := by unfold SMALL BIG; decide
theorem pow_le (j : Nat) (a b : Int) (hb : 1 ≤ b) (h : 2 ^ j * b ≤ a) (ha : a < SMALL) : j < 600 := by
  refine Nat.not_le.1 fun hj => ?_
  obtain ⟨k, rfl⟩ : ∃ k, j = 16 * 35 + k := ⟨j - 560, by omega⟩
  have p0 : (1 : Int) ≤ 2 ^ k := by
    have : ((2 ^ k : Nat) : Int) = 2 ^ k := by rw [Int.natCast_pow]; rfl
    have := Nat.two_pow_pos k
    omega
  have e : (2 : Int) ^ (16 * 35 + k) = 65536 ^ 35 * 2 ^ k := by rw [Int.pow_add, Int.pow_mul]; rfl
  rw [e, Int.mul_assoc] at h
  have h3 : (1 : Int) ≤ 2 ^ k * b := by
    have := Int.mul_le_mul p0 hb (by omega) (by omega); omega
  have h4 : (65536 : Int) ^ 35 * 1 ≤ 65536 ^ 35 * (2 ^ k * b) := Int.mul_le_mul_of_nonneg_left h3 (by decide)
  unfold SMALL at ha
  omega

/-- what holds of the second loop: k of j bits are done -/
structure QI (a b : Int) (j k : Nat) (t l q : Int) : Prop where
  ht : t = 2 ^ (j - k) * b.natAbs
  eq : (a.natAbs : Int) = q * t + l
  l0 : 0 ≤ l
  lt : l < t
  q0 : 0 ≤ q
  t1 : 1 ≤ t
  ts : t < 2 * SMALL
theorem QI.t0 {a b t l q : Int} {j k : Nat} (h : QI a b j k t l q) : 0 ≤ t := by have := h.t1; omega
theorem QI.tb {a b t l q : Int} {j k : Nat} (h : QI a b j k t l q) : (t.natAbs : Int) < BIG := by have := h.t1; have := h.ts; have := small_big; omega
theorem QI.lb {a b t l q : Int} {j k : Nat} (h : QI a b j k t l q) : (l.natAbs : Int) < BIG := by have := h.l0; have := h.lt; have := h.ts; have := small_big; omega
theorem QI.qs {a b t l q : Int} {j k : Nat} (h : QI a b j k t l q) (ha : (a.natAbs : Int) < SMALL) : q < SMALL := by
  have e := Int.mul_le_mul_of_nonneg_left h.t1 h.q0
  have := h.eq; have := h.l0; omega
theorem QI.qb {a b t l q : Int} {j k : Nat} (h : QI a b j k t l q) (ha : (a.natAbs : Int) < SMALL) : (q.natAbs : Int) < BIG := by have := h.qs ha; have := h.q0; have := small_big; omega
theorem QI.q2b {a b t l q : Int} {j k : Nat} (h : QI a b j k t l q) (ha : (a.natAbs : Int) < SMALL) : ((q + q).natAbs : Int) < BIG := by have := h.qs ha; have := h.q0; have := small_big; omega
theorem QI.half {a b t l q : Int} {j k : Nat} (h : QI a b j k t l q) (hk : k < j) : ∃ t', t' = 2 ^ (j - (k + 1)) * (b.natAbs : Int) ∧ t = 2 * t' := by
  refine ⟨_, rfl, ?_⟩
  rw [h.ht, show j - k = j - (k + 1) + 1 by omega, Int.pow_succ]; grind
theorem QI.yes {a b t l q t' : Int} {j k : Nat} (h : QI a b j k t l q) (hk : k < j) (ht : t' = 2 ^ (j - (k + 1)) * (b.natAbs : Int)) (e : t = 2 * t') (hl : t' ≤ l) : QI a b j (k + 1) t' (l + -t') (q + q + 1) := by
  have e1 := h.eq; have e2 := h.lt; have e3 := h.t1; have e4 := h.ts; have e5 := h.q0
  refine ⟨ht, ?_, by omega, by omega, by omega, by omega, by omega⟩
  rw [e1, e]; grind
theorem QI.no {a b t l q t' : Int} {j k : Nat} (h : QI a b j k t l q) (hk : k < j) (ht : t' = 2 ^ (j - (k + 1)) * (b.natAbs : Int)) (e : t = 2 * t') (hl : l < t') : QI a b j (k + 1) t' l (q + q) := by
  have e1 := h.eq; have e2 := h.lt; have e3 := h.t1; have e4 := h.ts; have e5 := h.q0; have e6 := h.l0
  refine ⟨ht, ?_, by omega, by omega, by omega, by omega, by omega⟩
  rw [e1, e]; grind
theorem QI.last {a b t l q : Int} {j : Nat} (h : QI a b j j t l q) : (a.natAbs : Int) = q * b.natAbs + l ∧ 0 ≤ l ∧ l < b.natAbs := by
  have e := h.ht
  rw [Nat.sub_self, Int.pow_zero, Int.one_mul] at e
  exact ⟨by rw [← e]; exact h.eq, h.l0, by rw [← e]; exact h.lt⟩
theorem quo_like {j : Nat} {t : Int} (a b q l x : Int) (h : QI a b j j t l q) (hs : a < 0 ↔ b < 0) (hx : (if a < 0 then -l else l) = x) : a = b * q + x ∧ (0 < b → 0 ≤ x ∧ x < b) ∧ (b < 0 → b < x ∧ x ≤ 0) := by
  obtain ⟨h1, h2, h3⟩ := h.last
  by_cases ha : a < 0
  · have hb := hs.1 ha
    rw [if_pos ha] at hx
    rw [show (b.natAbs : Int) = -b by omega, Int.mul_neg, Int.mul_comm] at h1
    exact ⟨by omega, fun _ => by omega, fun _ => by omega⟩
  · have hb : ¬ b < 0 := fun h => ha (hs.2 h)
    rw [if_neg ha] at hx
    rw [show (b.natAbs : Int) = b by omega, Int.mul_comm] at h1
    exact ⟨by omega, fun _ => by omega, fun h => absurd h hb⟩
theorem quo_zero {j : Nat} {t : Int} (a b q l x : Int) (h : QI a b j j t l q) (hs : ¬ (a < 0 ↔ b < 0)) (hx : (if a < 0 then -l else l) = x) (hl : l = 0) : a = b * -q + x ∧ (0 < b → 0 ≤ x ∧ x < b) ∧ (b < 0 → b < x ∧ x ≤ 0) := by
  obtain ⟨h1, h2, h3⟩ := h.last
  have x0 : x = 0 := by rw [← hx]; split <;> omega
  rw [Int.mul_neg]
  by_cases ha : a < 0
  · rw [show (b.natAbs : Int) = b by omega, Int.mul_comm] at h1
    exact ⟨by omega, fun _ => by omega, fun _ => by omega⟩
  · rw [show (b.natAbs : Int) = -b by omega, Int.mul_neg, Int.mul_comm] at h1
    exact ⟨by omega, fun _ => by omega, fun _ => by omega⟩
theorem quo_down {j : Nat} {t : Int} (a b q l x : Int) (h : QI a b j j t l q) (hs : ¬ (a < 0 ↔ b < 0)) (hx : (if a < 0 then -l else l) = x) (hl : ¬ l = 0) : a = b * (-q + -1) + (x + b) ∧ (0 < b → 0 ≤ x + b ∧ x + b < b) ∧ (b < 0 → b < x + b ∧ x + b ≤ 0) := by
  obtain ⟨h1, h2, h3⟩ := h.last
  rw [Int.mul_add, Int.mul_neg, Int.mul_neg, Int.mul_one]
  by_cases ha : a < 0
  · rw [if_pos ha] at hx
    rw [show (b.natAbs : Int) = b by omega, Int.mul_comm] at h1
    exact ⟨by omega, fun _ => by omega, fun _ => by omega⟩
  · rw [if_neg ha] at hx
    rw [show (b.natAbs : Int) = -b by omega, Int.mul_neg, Int.mul_comm] at h1
    exact ⟨by omega, fun _ => by omega, fun _ => by omega⟩
theorem unlike {ba bb : Bool} {a b : Int} (ha : ba = true ↔ a < 0) (hb : bb = true ↔ b < 0) (h : ba ≠ bb) : ¬ (a < 0 ↔ b < 0) := fun e => h (by rw [Bool.eq_iff_iff, ha, hb, e])
/-- both results stored -/
theorem quo_end {F : List (Nat × Nat × Value)} (V : World) {R S : Nat} {w : World} {u v : Value} {y z : Int} {x0 x1 x2 x3 : Value} (hK : Kept F V) (hu : NumR V u y) (hv : NumR V v z) (hn : ¬ R = S) (hR : w.heap.size ≤ R) (hS : w.heap.size ≤ S) (hB : Below w.heap.size w V)
    (r0 : V.cell? ⟨R, 0, none⟩ = some (.bool false)) (s0 : V.cell? ⟨S, 0, none⟩ = some (.bool false)) :
    NumR ((((V.setCell ⟨R, 0, none⟩ x0).setCell ⟨R, 1, none⟩ x1).setCell ⟨S, 0, none⟩ x2).setCell ⟨S, 1, none⟩ x3).drew u y ∧ NumR ((((V.setCell ⟨R, 0, none⟩ x0).setCell ⟨R, 1, none⟩ x1).setCell ⟨S, 0, none⟩ x2).setCell ⟨S, 1, none⟩ x3).drew v z
      ∧ Below w.heap.size w ((((V.setCell ⟨R, 0, none⟩ x0).setCell ⟨R, 1, none⟩ x1).setCell ⟨S, 0, none⟩ x2).setCell ⟨S, 1, none⟩ x3).drew := by
  have s0' : ((V.setCell ⟨R, 0, none⟩ x0).setCell ⟨R, 1, none⟩ x1).cell? ⟨S, 0, none⟩ = some (.bool false) := by
    rw [World.cell?_setCell_other _ _ _ _ (addr_ne hn), World.cell?_setCell_other _ _ _ _ (addr_ne hn)]; exact s0
  exact ⟨((hu.boxed r0 x0 x1).boxed s0' x2 x3).later (Below.drew (Below.refl _ _)) (Nat.le_refl _), ((hv.boxed r0 x0 x1).boxed s0' x2 x3).later (Below.drew (Below.refl _ _)) (Nat.le_refl _), Below.drew (Below.setCell (Below.setCell (Below.setCell (Below.setCell hB hR _) hR _) hS _) hS _)⟩
theorem one_big : (((1 : Int)).natAbs : Int) < BIG := by decide
theorem minus_one_big : (((-1 : Int)).natAbs : Int) < BIG := by decide
/-- 1, or -1, in a new slice of one digit -/
theorem NumR.unit (X : World) (T : TypeId) (b : Bool) : NumR (X.alloc (.cells #[.int .i64 1] T)) (.agg #[.bool b, .slice (some ⟨X.heap.size, 0, none⟩) 1 1]) (if b then -1 else 1) := by
  refine ⟨b, _, [1], rfl, .inr ⟨X.heap.size, 1, 1, rfl, rfl, by omega, by omega, by simp, fun i hi => ?_⟩, fun i => ?_, .inr (by simp), fun h => by simp at h, by simp [val]⟩
  · obtain rfl : i = 0 := by omega
    simp [go_sem]
  · match i with
    | 0 => simp
    | i + 1 => simp

set_option maxHeartbeats 8000000 in
set_option maxRecDepth 1000000 in
theorem Quo_core (ba bb : Bool) (p q : Option Addr) (n c m d : Nat) (a b : Int) (w : World) (ha : NumR w (.agg #[.bool ba, .slice p n c]) a) (hb : NumR w (.agg #[.bool bb, .slice q m d]) b) (hb0 : b ≠ 0) (a1 : (a.natAbs : Int) < SMALL) (b1 : (b.natAbs : Int) < SMALL) :
    Calls Try.prog 15 #[.agg #[.bool ba, .slice p n c], .agg #[.bool bb, .slice q m d]] w (QuoE w a b) := by
  have HA := Lib.hid ha; clear ha
  have HB := Lib.hid hb; clear hb
  have HB0 := Lib.hid hb0; clear hb0
  have A1 := Lib.hid a1; clear a1
  have B1 := Lib.hid b1; clear b1
  go_enter Try.func15, Try.ntmps15
  go_wp2_with (fail)
  have hW : ∃ W0, W0 = ((((w.alloc (.cells #[.bool ba, .slice p n c] 29)).alloc (.cells #[.bool bb, .slice q m d] 29)).alloc (.cells #[.bool false, .slice none 0 0] 29)).alloc (.cells #[.bool false, .slice none 0 0] 29)).alloc (.cells #[.bool false, .slice q m d] 29) := ⟨_, rfl⟩
  obtain ⟨W0, hW0⟩ := hW
  have bel : Below w.heap.size w W0 := by rw [hW0]; exact (by repeat (first | exact Below.refl _ _ | assumption | refine below_drewN ?_ _ | refine Below.drew ?_ | refine Below.alloc ?_ (by first | omega | (simp; done) | (simp; omega)) _ | refine Below.setCell ?_ (by first | (simp; done) | (simp; omega)) _))
  have K0 : Kept [(w.heap.size, 0, .bool ba), (w.heap.size, 1, .slice p n c), (w.heap.size + 1, 0, .bool bb), (w.heap.size + 1, 1, .slice q m d), (w.heap.size + 1 + 1, 0, .bool false), (w.heap.size + 1 + 1, 1, .slice none 0 0), (w.heap.size + 1 + 1 + 1, 0, .bool false), (w.heap.size + 1 + 1 + 1, 1, .slice none 0 0)] W0 := by
    rw [hW0]
    refine .cons ?_ ?_ ?_ (.cons ?_ ?_ ?_ (.cons ?_ ?_ ?_ (.cons ?_ ?_ ?_ (.cons ?_ ?_ ?_ (.cons ?_ ?_ ?_ (.cons ?_ ?_ ?_ (.cons ?_ ?_ ?_ .nil))))))) <;> first | (simp; done) | (simp; omega) | (simp [go_sem]; done)
  have T0 : Boxed W0 (w.heap.size + 1 + 1 + 1 + 1) b.natAbs := by
    refine ⟨false, q, m, d, ?_, (HB.out.later bel (Nat.le_refl _)).abs⟩
    rw [hW0]
    refine .cons ?_ ?_ ?_ (.cons ?_ ?_ ?_ .nil) <;> first | (simp; done) | (simp; omega) | (simp [go_sem]; done)
  rw [← hW0]
  clear hW0
  obtain ⟨T, hT⟩ : ∃ T, T = w.heap.size + 1 + 1 + 1 + 1 := ⟨_, rfl⟩
  obtain ⟨S, hS⟩ : ∃ S, S = w.heap.size + 1 + 1 + 1 := ⟨_, rfl⟩
  obtain ⟨R, hR⟩ : ∃ R, R = w.heap.size + 1 + 1 := ⟨_, rfl⟩
  obtain ⟨B, hB⟩ : ∃ B, B = w.heap.size + 1 := ⟨_, rfl⟩
  obtain ⟨A, hA⟩ : ∃ A, A = w.heap.size := ⟨_, rfl⟩
  rw [← hT] at T0 ⊢
  rw [← hS] at K0 ⊢
  rw [← hR] at K0 ⊢
  rw [← hB] at K0 ⊢
  rw [← hA] at K0 ⊢
  have dist := Lib.hid (show A < B ∧ B < R ∧ R < S ∧ S < T ∧ w.heap.size ≤ A by omega)
  have KO := Lib.hid (show ∀ X U u v, U ≠ A → U ≠ B → U ≠ R → U ≠ S → Kept [(A, 0, .bool ba), (A, 1, .slice p n c), (B, 0, .bool bb), (B, 1, .slice q m d), (R, 0, .bool false), (R, 1, .slice none 0 0), (S, 0, .bool false), (S, 1, .slice none 0 0)] X → Kept [(A, 0, .bool ba), (A, 1, .slice p n c), (B, 0, .bool bb), (B, 1, .slice q m d), (R, 0, .bool false), (R, 1, .slice none 0 0), (S, 0, .bool false), (S, 1, .slice none 0 0)] ((X.setCell ⟨U, 0, none⟩ u).setCell ⟨U, 1, none⟩ v) from
    fun X U u v hA hB hR hS h => h.setOther2 (fun t ht => by simp at ht; rcases ht with rfl | rfl | rfl | rfl | rfl | rfl | rfl | rfl <;> (simp; omega)) u v)
  have K0' := Lib.hid K0
  have T0' := Lib.hid T0
  have bel' := Lib.hid bel
  have bn : Hid (1 ≤ (b.natAbs : Int)) := Lib.hid (by have := HB0.out; omega)
  clear hT hS hR hB hA K0 T0 bel
  have QJ := Lib.hid (show ∀ j : Nat, j ≤ 600 → 2 ^ j * (b.natAbs : Int) ≤ a.natAbs → j < 600 from fun j _ h => pow_le j _ _ bn.out h A1.out)
  have QB := Lib.hid (show ∀ j : Nat, j ≤ 600 → 2 ^ j * (b.natAbs : Int) ≤ a.natAbs → ((2 ^ j * (b.natAbs : Int)).natAbs : Int) < BIG from fun j _ h => by
    have e : (0 : Int) ≤ 2 ^ j * (b.natAbs : Int) := Int.mul_nonneg (Int.le_of_lt (Int.pow_pos (by omega))) (by omega)
    have := A1.out; have := small_big; omega)
  go_loopw [7] (fun i wr => ∃ j : Nat, j ≤ 600 ∧ i = .int .i64 j ∧ Hid (Kept [(A, 0, .bool ba), (A, 1, .slice p n c), (B, 0, .bool bb), (B, 1, .slice q m d), (R, 0, .bool false), (R, 1, .slice none 0 0), (S, 0, .bool false), (S, 1, .slice none 0 0)] wr) ∧ Hid (Boxed wr T (2 ^ j * b.natAbs)) ∧ Hid (2 ^ j * (b.natAbs : Int) < 2 * SMALL) ∧ Hid (Below w.heap.size w wr)) (fun i _ => (600 - (intOf i).toNat))
  case atStart => exact ⟨0, by omega, rfl, K0'.out, (show Boxed W0 T _ by simpa using T0'.out), (show (_ : Int) < _ by have := B1.out; simp; omega), bel'.out⟩
  case round =>
    clear K0' T0' bel'
    obtain ⟨j, hj, rfl, hK, hT, hTB, hBl⟩ := hrel
    obtain ⟨tb, tp, tn, tc, KT, NT⟩ := hT.out
    have KT := Lib.hid KT; have NT := Lib.hid NT
    have xaz := (hK.out.get A 0 (.bool ba) (by simp)).2.1; have fxaz := (hK.out.get A 0 (.bool ba) (by simp)).2.2; have xbz := (hK.out.get A 1 (.slice p n c) (by simp)).2.1; have fxbz := (hK.out.get A 1 (.slice p n c) (by simp)).2.2; have taz := (KT.out.get T 0 (.bool tb) (by simp)).2.1; have ftaz := (KT.out.get T 0 (.bool tb) (by simp)).2.2; have ttz := (KT.out.get T 1 (.slice tp tn tc) (by simp)).2.1; have fttz := (KT.out.get T 1 (.slice tp tn tc) (by simp)).2.2
    have lt0 := hBl.out.size
    have szc := fun wx (hx : Below wr.heap.size wr wx) => size_any _ _ _ _ wx (NT.out.later hx (Nat.le_refl _)) (HA.out.later (hBl.out.trans (hx.mono (by exact hBl.out.size))) (Nat.le_refl _))
    have tz : (0 : Int) ≤ 2 ^ j * (b.natAbs : Int) := Int.mul_nonneg (Int.le_of_lt (Int.pow_pos (by omega))) (by omega)
    rw [Int.natAbs_of_nonneg tz] at szc
    by_cases hle : 2 ^ j * (b.natAbs : Int) ≤ a.natAbs
    · obtain ⟨r, hr, hr0⟩ : ∃ r, cmpI (2 ^ j * (b.natAbs : Int)) a.natAbs = r ∧ r ≤ 0 := ⟨_, rfl, by unfold cmpI; split <;> (try split) <;> omega⟩
      rw [hr] at szc
      have SZ := Lib.hid szc
      clear szc hr tz
      have HLE := Lib.hid hle
      clear hle
      go_wp2_with (fail); go_at_call 29; refine (SZ.out _ (by repeat (first | exact Below.refl _ _ | assumption | refine below_drewN ?_ _ | refine Below.drew ?_ | refine Below.alloc ?_ (by first | omega | (simp; done) | (simp; omega)) _ | refine Below.setCell ?_ (by first | (simp; done) | (simp; omega)) _))).mono ?_; rintro e w1 ⟨rfl, h1⟩
      have c1 : Below wr.heap.size wr w1 := below_step (by repeat (first | exact Below.refl _ _ | assumption | refine below_drewN ?_ _ | refine Below.drew ?_ | refine Below.alloc ?_ (by first | omega | (simp; done) | (simp; omega)) _ | refine Below.setCell ?_ (by first | (simp; done) | (simp; omega)) _)) h1
      have KT1 := Lib.hid (KT.out.step c1)
      have ta1 := (KT1.out.get T 0 (.bool tb) (by simp)).2.1; have fta1 := (KT1.out.get T 0 (.bool tb) (by simp)).2.2; have tt1 := (KT1.out.get T 1 (.slice tp tn tc) (by simp)).2.1; have ftt1 := (KT1.out.get T 1 (.slice tp tn tc) (by simp)).2.2
      have NT1 := NT.out.later c1 (Nat.le_refl _)
      have sm := Lib.hid (refSum_any _ _ _ _ w1 NT1 NT1 (QB.out j hj HLE.out) (QB.out j hj HLE.out))
      clear NT1
      go_wp2_with (fail); go_at_call 26; refine (sm.out).mono ?_; rintro e w2 ⟨v2, rfl, n2, h2⟩
      obtain ⟨b2, p2, k2, c2, rfl⟩ := n2.form
      have c2' : Below wr.heap.size wr w2 := below_step c1 h2
      have KT2 := KT.out.step c2'
      have ta2 := (KT2.get T 0 (.bool tb) (by simp)).2.1; have fta2 := (KT2.get T 0 (.bool tb) (by simp)).2.2; have tt2 := (KT2.get T 1 (.slice tp tn tc) (by simp)).2.1; have ftt2 := (KT2.get T 1 (.slice tp tn tc) (by simp)).2.2
      have nK := Lib.hid (KO.out w2 T (.bool b2) (.slice p2 k2 c2) (by have := dist.out; omega) (by have := dist.out; omega) (by have := dist.out; omega) (by have := dist.out; omega) (hK.out.step c2'))
      have nT := Lib.hid (Boxed.put KT2 n2)
      have nB := Lib.hid (show Below w.heap.size w ((w2.setCell ⟨T, 0, none⟩ (.bool b2)).setCell ⟨T, 1, none⟩ (.slice p2 k2 c2)) from Below.setCell (Below.setCell (below_step hBl.out c2') (by have := dist.out; show w.heap.size ≤ T; omega) _) (by have := dist.out; show w.heap.size ≤ T; omega) _)
      have jl := QJ.out j hj HLE.out
      clear KT2 n2
      go_wp2_with (fail)
      go_roundw
      case rel => exact ⟨j + 1, by omega, by go_num, nK, (by have := nT.out; rwa [show 2 ^ j * (b.natAbs : Int) + 2 ^ j * (b.natAbs : Int) = 2 ^ (j + 1) * (b.natAbs : Int) by rw [Int.pow_succ]; grind] at this), (show (_ : Int) < _ by have := HLE.out; have := A1.out; rw [show (2 : Int) ^ (j + 1) * (b.natAbs : Int) = 2 * (2 ^ j * (b.natAbs : Int)) by rw [Int.pow_succ]; grind]; omega), nB⟩
      case measure => simp [intOf]; omega
    · obtain ⟨r, hr, hr0⟩ : ∃ r, cmpI (2 ^ j * (b.natAbs : Int)) a.natAbs = r ∧ decide (r ≤ 0) = false := ⟨_, rfl, by rw [cmpI_gt (by omega)]; rfl⟩
      rw [hr] at szc
      have SZ := Lib.hid szc
      have HLE := Lib.hid (show (a.natAbs : Int) < 2 ^ j * (b.natAbs : Int) by omega)
      clear szc hr hle tz
      go_wp2_with (fail); go_at_call 29; refine (SZ.out _ (by repeat (first | exact Below.refl _ _ | assumption | refine below_drewN ?_ _ | refine Below.drew ?_ | refine Below.alloc ?_ (by first | omega | (simp; done) | (simp; omega)) _ | refine Below.setCell ?_ (by first | (simp; done) | (simp; omega)) _))).mono ?_; rintro e w1 ⟨rfl, h1⟩
      have c1 : Below wr.heap.size wr w1 := below_step (by repeat (first | exact Below.refl _ _ | assumption | refine below_drewN ?_ _ | refine Below.drew ?_ | refine Below.alloc ?_ (by first | omega | (simp; done) | (simp; omega)) _ | refine Below.setCell ?_ (by first | (simp; done) | (simp; omega)) _)) h1
      have K1 := Lib.hid (hK.out.step c1)
      have xa1 := (K1.out.get A 0 (.bool ba) (by simp)).2.1; have fxa1 := (K1.out.get A 0 (.bool ba) (by simp)).2.2; have xb1 := (K1.out.get A 1 (.slice p n c) (by simp)).2.1; have fxb1 := (K1.out.get A 1 (.slice p n c) (by simp)).2.2
      go_wp2_with (fail)
      have c2 : Below wr.heap.size wr ((w1.alloc (.cells #[.bool false, .slice p n c] 29)).alloc (.cells #[.bool false, .slice none 0 0] 29)) := by have := c1.size; exact ((c1.alloc (by omega) _).alloc (by simp; omega) _)
      have nK := Lib.hid (hK.out.step c2)
      have nT := Lib.hid (hT.out.step c2)
      have nB := Lib.hid (below_step hBl.out c2)
      have nL := Lib.hid (show Boxed ((w1.alloc (.cells #[.bool false, .slice p n c] 29)).alloc (.cells #[.bool false, .slice none 0 0] 29)) w1.heap.size a.natAbs from ⟨false, p, n, c, (by refine .cons ?_ ?_ ?_ (.cons ?_ ?_ ?_ .nil) <;> first | (simp; done) | (simp; omega) | (simp [go_sem]; done)), (HA.out.later nB.out (Nat.le_refl _)).abs⟩)
      have nQ := Lib.hid (show Boxed ((w1.alloc (.cells #[.bool false, .slice p n c] 29)).alloc (.cells #[.bool false, .slice none 0 0] 29)) (w1.heap.size + 1) 0 from ⟨false, none, 0, 0, (by refine .cons ?_ ?_ ?_ (.cons ?_ ?_ ?_ .nil) <;> first | (simp; done) | (simp; omega) | (simp [go_sem]; done)), NumR.zero _⟩)
      obtain ⟨Q, hQ⟩ : ∃ Q, Q = w1.heap.size + 1 := ⟨_, rfl⟩
      obtain ⟨L, hL⟩ : ∃ L, L = w1.heap.size := ⟨_, rfl⟩
      rw [← hQ] at nQ ⊢
      rw [← hL] at nL ⊢
      have dist2 := Lib.hid (show A < B ∧ B < R ∧ R < S ∧ S < T ∧ w.heap.size ≤ A ∧ T < L ∧ L < Q by have := dist.out; have := (KT.out.get T 0 (.bool tb) (by simp)).1; have := c1.size; omega)
      have KO1 := Lib.hid (show ∀ X v, Kept [(A, 0, .bool ba), (A, 1, .slice p n c), (B, 0, .bool bb), (B, 1, .slice q m d), (R, 0, .bool false), (R, 1, .slice none 0 0), (S, 0, .bool false), (S, 1, .slice none 0 0)] X → Kept [(A, 0, .bool ba), (A, 1, .slice p n c), (B, 0, .bool bb), (B, 1, .slice q m d), (R, 0, .bool false), (R, 1, .slice none 0 0), (S, 0, .bool false), (S, 1, .slice none 0 0)] (X.setCell ⟨L, 0, none⟩ v) from fun X v h => h.setOther (fun t ht => by have := dist2.out; simp at ht; rcases ht with rfl | rfl | rfl | rfl | rfl | rfl | rfl | rfl <;> (simp; omega)) v)
      generalize ((w1.alloc (.cells #[.bool false, .slice p n c] 29)).alloc (.cells #[.bool false, .slice none 0 0] 29)) = V0 at nK nT nL nQ nB ⊢
      clear hK hT hBl KT NT c1 c2 h1 hQ hL K1 SZ hr0 QJ QB
      go_loopw [10] (fun i wr => ∃ (k : Nat) (t l q' : Int), k ≤ j ∧ i = .int .i64 k ∧ Hid (Kept [(A, 0, .bool ba), (A, 1, .slice p n c), (B, 0, .bool bb), (B, 1, .slice q m d), (R, 0, .bool false), (R, 1, .slice none 0 0), (S, 0, .bool false), (S, 1, .slice none 0 0)] wr) ∧ Hid (Boxed wr T t) ∧ Hid (Boxed wr L l) ∧ Hid (Boxed wr Q q') ∧ Hid (QI a b j k t l q') ∧ Hid (Below w.heap.size w wr)) (fun i _ => (j - (intOf i).toNat))
      case atStart => exact ⟨0, _, _, 0, by omega, rfl, nK.out, nT.out, nL.out, nQ.out, (show QI a b j 0 _ _ 0 from ⟨rfl, by omega, by omega, HLE.out, by omega, (by have := HLE.out; omega), hTB.out⟩), nB.out⟩
      case round =>
        clear nK nT nL nQ nB HLE hTB
        obtain ⟨k, t, l, q', hk, rfl, nK, nT, nL, nQ, hI, nB⟩ := hrel
        have s0 := nB.out.size
        by_cases hlt : k < j
        · obtain ⟨t', ht', e2⟩ := hI.out.half hlt
          have I2 := Lib.hid e2; have IT := Lib.hid ht'
          clear ht' e2
          obtain ⟨tb, tp, tn, tc, Kt, Nt⟩ := nT.out; have Kt := Lib.hid Kt; have Nt := Lib.hid Nt
          have t0a := (Kt.out.get T 0 (.bool tb) (by simp)).2.1; have ft0a := (Kt.out.get T 0 (.bool tb) (by simp)).2.2; have t1a := (Kt.out.get T 1 (.slice tp tn tc) (by simp)).2.1; have ft1a := (Kt.out.get T 1 (.slice tp tn tc) (by simp)).2.2
          obtain ⟨qb, qp, qn, qc, Kq, Nq⟩ := nQ.out; have Kq := Lib.hid Kq; have Nq := Lib.hid Nq
          have hf := Lib.hid (fun wx (hx : Below wr.heap.size wr wx) => half_any _ t wx ((NumR.dig Nt.out hI.out.tb).later hx (Nat.le_refl _)) hI.out.t0)
          go_wp2_with (fail); go_at_call 30; refine (hf.out _ (by repeat (first | exact Below.refl _ _ | assumption | refine below_drewN ?_ _ | refine Below.drew ?_ | refine Below.alloc ?_ (by first | omega | (simp; done) | (simp; omega)) _ | refine Below.setCell ?_ (by first | (simp; done) | (simp; omega)) _))).mono ?_; rintro e w1 ⟨v1, rfl, n1, h1⟩
          obtain ⟨b1, p1, k1, c1, rfl⟩ := n1.form
          rw [show t / 2 = t' by have := I2.out; omega] at n1
          have cc : Below wr.heap.size wr w1 := below_step (by repeat (first | exact Below.refl _ _ | assumption | refine below_drewN ?_ _ | refine Below.drew ?_ | refine Below.alloc ?_ (by first | omega | (simp; done) | (simp; omega)) _ | refine Below.setCell ?_ (by first | (simp; done) | (simp; omega)) _)) h1
          have KU := Kt.out.step cc
          have t0u := (KU.get T 0 (.bool tb) (by simp)).2.1; have ft0u := (KU.get T 0 (.bool tb) (by simp)).2.2; have t1u := (KU.get T 1 (.slice tp tn tc) (by simp)).2.1; have ft1u := (KU.get T 1 (.slice tp tn tc) (by simp)).2.2
          have mK := Lib.hid (KO.out w1 T (.bool b1) (.slice p1 k1 c1) (by have := dist2.out; omega) (by have := dist2.out; omega) (by have := dist2.out; omega) (by have := dist2.out; omega) (nK.out.step cc))
          have mT := Lib.hid (Boxed.put KU n1)
          have mL := Lib.hid (Boxed.other (nL.out.step cc) (by have := dist2.out; omega) KU (.bool b1) (.slice p1 k1 c1))
          have mQ := Lib.hid (Boxed.other (nQ.out.step cc) (by have := dist2.out; omega) KU (.bool b1) (.slice p1 k1 c1))
          have mB := Lib.hid (show Below w.heap.size w ((w1.setCell ⟨T, 0, none⟩ (.bool b1)).setCell ⟨T, 1, none⟩ (.slice p1 k1 c1)) from Below.setCell (Below.setCell (below_step nB.out cc) (by have := dist2.out; show w.heap.size ≤ T; omega) _) (by have := dist2.out; show w.heap.size ≤ T; omega) _)
          clear KU n1
          go_upto_region 12 with (fail)
          generalize ((w1.setCell ⟨T, 0, none⟩ (.bool b1)).setCell ⟨T, 1, none⟩ (.slice p1 k1 c1)) = V1 at mK mT mL mQ mB ⊢
          clear cc h1 nK nT nL nQ nB Kt Nt Kq Nq hf
          have s1 := mB.out.size
          obtain ⟨yb, yp, yn, yc, Ky, Ny⟩ := mQ.out; have Ky := Lib.hid Ky; have Ny := Lib.hid Ny
          have y0b := (Ky.out.get Q 0 (.bool yb) (by simp)).2.1; have fy0b := (Ky.out.get Q 0 (.bool yb) (by simp)).2.2; have y1b := (Ky.out.get Q 1 (.slice yp yn yc) (by simp)).2.1; have fy1b := (Ky.out.get Q 1 (.slice yp yn yc) (by simp)).2.2
          have sm := Lib.hid (fun wx (hx : Below V1.heap.size V1 wx) => refSum_any _ _ q' q' wx (Ny.out.later hx (Nat.le_refl _)) (Ny.out.later hx (Nat.le_refl _)) (hI.out.qb A1.out) (hI.out.qb A1.out))
          go_wp2_with (fail); go_at_call 26; refine (sm.out _ (by repeat (first | exact Below.refl _ _ | assumption | refine below_drewN ?_ _ | refine Below.drew ?_ | refine Below.alloc ?_ (by first | omega | (simp; done) | (simp; omega)) _ | refine Below.setCell ?_ (by first | (simp; done) | (simp; omega)) _))).mono ?_; rintro e w2 ⟨v2, rfl, n2, h2⟩
          obtain ⟨b2, p2, k2, c2, rfl⟩ := n2.form
          have cc : Below V1.heap.size V1 w2 := below_step (by repeat (first | exact Below.refl _ _ | assumption | refine below_drewN ?_ _ | refine Below.drew ?_ | refine Below.alloc ?_ (by first | omega | (simp; done) | (simp; omega)) _ | refine Below.setCell ?_ (by first | (simp; done) | (simp; omega)) _)) h2
          have oK := mK; have oT := mT; have oL := mL; have oB := mB
          clear mK mT mL mB
          have KU := Ky.out.step cc
          have y0ub := (KU.get Q 0 (.bool yb) (by simp)).2.1; have fy0ub := (KU.get Q 0 (.bool yb) (by simp)).2.2; have y1ub := (KU.get Q 1 (.slice yp yn yc) (by simp)).2.1; have fy1ub := (KU.get Q 1 (.slice yp yn yc) (by simp)).2.2
          have mK := Lib.hid (KO.out w2 Q (.bool b2) (.slice p2 k2 c2) (by have := dist2.out; omega) (by have := dist2.out; omega) (by have := dist2.out; omega) (by have := dist2.out; omega) (oK.out.step cc))
          have mQ := Lib.hid (Boxed.put KU n2)
          have mT := Lib.hid (Boxed.other (oT.out.step cc) (by have := dist2.out; omega) KU (.bool b2) (.slice p2 k2 c2))
          have mL := Lib.hid (Boxed.other (oL.out.step cc) (by have := dist2.out; omega) KU (.bool b2) (.slice p2 k2 c2))
          have mB := Lib.hid (show Below w.heap.size w ((w2.setCell ⟨Q, 0, none⟩ (.bool b2)).setCell ⟨Q, 1, none⟩ (.slice p2 k2 c2)) from Below.setCell (Below.setCell (below_step oB.out cc) (by have := dist2.out; show w.heap.size ≤ Q; omega) _) (by have := dist2.out; show w.heap.size ≤ Q; omega) _)
          clear KU n2
          go_upto_region 13 with (fail)
          generalize ((w2.setCell ⟨Q, 0, none⟩ (.bool b2)).setCell ⟨Q, 1, none⟩ (.slice p2 k2 c2)) = V2 at mK mQ mT mL mB ⊢
          clear cc h2 oK oT oL oB Ky Ny sm
          have s2 := mB.out.size
          obtain ⟨tb, tp, tn, tc, Kt, Nt⟩ := mT.out; have Kt := Lib.hid Kt; have Nt := Lib.hid Nt
          have t0c := (Kt.out.get T 0 (.bool tb) (by simp)).2.1; have ft0c := (Kt.out.get T 0 (.bool tb) (by simp)).2.2; have t1c := (Kt.out.get T 1 (.slice tp tn tc) (by simp)).2.1; have ft1c := (Kt.out.get T 1 (.slice tp tn tc) (by simp)).2.2
          obtain ⟨lb, lp, ln, lc, Kl, Nl⟩ := mL.out; have Kl := Lib.hid Kl; have Nl := Lib.hid Nl
          have l0c := (Kl.out.get L 0 (.bool lb) (by simp)).2.1; have fl0c := (Kl.out.get L 0 (.bool lb) (by simp)).2.2; have l1c := (Kl.out.get L 1 (.slice lp ln lc) (by simp)).2.1; have fl1c := (Kl.out.get L 1 (.slice lp ln lc) (by simp)).2.2
          have szc := fun wx (hx : Below V2.heap.size V2 wx) => size_any _ _ l t' wx (Nl.out.later hx (Nat.le_refl _)) (Nt.out.later hx (Nat.le_refl _))
          rw [Int.natAbs_of_nonneg hI.out.l0, Int.natAbs_of_nonneg (show 0 ≤ t' by have := I2.out; have := hI.out.t1; omega)] at szc
          by_cases hle : t' ≤ l
          · obtain ⟨r, hr, hr0⟩ : ∃ r, cmpI l t' = r ∧ decide (0 ≤ r) = true := ⟨_, rfl, by unfold cmpI; rw [if_neg (by omega)]; split <;> rfl⟩
            rw [hr] at szc
            have SZ := Lib.hid szc
            have HLE := Lib.hid hle
            clear szc hr hle
            go_wp2_with (fail); go_at_call 29; refine (SZ.out _ (by repeat (first | exact Below.refl _ _ | assumption | refine below_drewN ?_ _ | refine Below.drew ?_ | refine Below.alloc ?_ (by first | omega | (simp; done) | (simp; omega)) _ | refine Below.setCell ?_ (by first | (simp; done) | (simp; omega)) _))).mono ?_; rintro e w3 ⟨rfl, h3⟩
            have c3 : Below V2.heap.size V2 w3 := below_step (by repeat (first | exact Below.refl _ _ | assumption | refine below_drewN ?_ _ | refine Below.drew ?_ | refine Below.alloc ?_ (by first | omega | (simp; done) | (simp; omega)) _ | refine Below.setCell ?_ (by first | (simp; done) | (simp; omega)) _)) h3
            have Kl3 := Lib.hid (Kl.out.step c3); have Kt3 := Lib.hid (Kt.out.step c3)
            have l0d := (Kl3.out.get L 0 (.bool lb) (by simp)).2.1; have fl0d := (Kl3.out.get L 0 (.bool lb) (by simp)).2.2; have l1d := (Kl3.out.get L 1 (.slice lp ln lc) (by simp)).2.1; have fl1d := (Kl3.out.get L 1 (.slice lp ln lc) (by simp)).2.2
            have t0d := (Kt3.out.get T 0 (.bool tb) (by simp)).2.1; have ft0d := (Kt3.out.get T 0 (.bool tb) (by simp)).2.2; have t1d := (Kt3.out.get T 1 (.slice tp tn tc) (by simp)).2.1; have ft1d := (Kt3.out.get T 1 (.slice tp tn tc) (by simp)).2.2
            have s3 := c3.size
            go_upto_region 14 with (fail)
            have mi := Lib.hid (fun wx (hx : Below V2.heap.size V2 wx) => minus_any _ t' wx (Nt.out.later hx (Nat.le_refl _)))
            have sm := Lib.hid (fun wx v (hx : Below V2.heap.size V2 wx) (hv : NumR wx v (-t')) => refSum_any _ v l (-t') wx (Nl.out.later hx (Nat.le_refl _)) hv (hI.out.lb) (by have := hI.out.tb; have := I2.out; have := hI.out.t1; omega))
            go_region_with (first | (go_at_call 31; (with_reducible refine (mi.out _ ?hx).mono ?_); (case hx => exact (by repeat (first | exact Below.refl _ _ | assumption | refine below_drewN ?_ _ | refine Below.drew ?_ | refine Below.alloc ?_ (by first | omega | (simp; done) | (simp; omega)) _ | refine Below.setCell ?_ (by first | (simp; done) | (simp; omega)) _))); rintro e w4 ⟨v4, rfl, n4, h4⟩; have c4 : Below V2.heap.size V2 w4 := below_step (by repeat (first | exact Below.refl _ _ | assumption | refine below_drewN ?_ _ | refine Below.drew ?_ | refine Below.alloc ?_ (by first | omega | (simp; done) | (simp; omega)) _ | refine Below.setCell ?_ (by first | (simp; done) | (simp; omega)) _)) h4; have N4 := Lib.hid n4; clear n4; have Kl4 := Lib.hid (Kl.out.step c4); have l0e := (Kl4.out.get L 0 (.bool lb) (by simp)).2.1; have fl0e := (Kl4.out.get L 0 (.bool lb) (by simp)).2.2; have l1e := (Kl4.out.get L 1 (.slice lp ln lc) (by simp)).2.1; have fl1e := (Kl4.out.get L 1 (.slice lp ln lc) (by simp)).2.2) | (go_at_call 26; (refine (sm.out _ v4 ?hx ?hy).mono ?_); (case hx => exact (by repeat (first | exact Below.refl _ _ | assumption | refine below_drewN ?_ _ | refine Below.drew ?_ | refine Below.alloc ?_ (by first | omega | (simp; done) | (simp; omega)) _ | refine Below.setCell ?_ (by first | (simp; done) | (simp; omega)) _))); (case hy => exact NumR.later (B := w4.heap.size) N4.out (by repeat (first | exact Below.refl _ _ | assumption | refine below_drewN ?_ _ | refine Below.drew ?_ | refine Below.alloc ?_ (by first | omega | (simp; done) | (simp; omega)) _ | refine Below.setCell ?_ (by first | (simp; done) | (simp; omega)) _)) (Nat.le_refl _)); rintro e w5 ⟨v5, rfl, n5, h5⟩; obtain ⟨b5, p5, k5, c5, rfl⟩ := n5.form; have cc : Below V2.heap.size V2 w5 := below_step (by repeat (first | exact Below.refl _ _ | assumption | refine below_drewN ?_ _ | refine Below.drew ?_ | refine Below.alloc ?_ (by first | omega | (simp; done) | (simp; omega)) _ | refine Below.setCell ?_ (by first | (simp; done) | (simp; omega)) _)) h5; have N5 := Lib.hid n5; clear n5; have Kl5 := Lib.hid (Kl.out.step cc); have l0f := (Kl5.out.get L 0 (.bool lb) (by simp)).2.1; have fl0f := (Kl5.out.get L 0 (.bool lb) (by simp)).2.2; have l1f := (Kl5.out.get L 1 (.slice lp ln lc) (by simp)).2.1; have fl1f := (Kl5.out.get L 1 (.slice lp ln lc) (by simp)).2.2))
            all_goals
              have n5 := N5.out
              have oK := mK; have oT := mT; have oQ := mQ; have oB := mB
              clear mK mT mQ mB mL
              have KU := Kl.out.step cc
              have l0ug := (KU.get L 0 (.bool lb) (by simp)).2.1; have fl0ug := (KU.get L 0 (.bool lb) (by simp)).2.2; have l1ug := (KU.get L 1 (.slice lp ln lc) (by simp)).2.1; have fl1ug := (KU.get L 1 (.slice lp ln lc) (by simp)).2.2
              have mK := Lib.hid (KO.out w5 L (.bool b5) (.slice p5 k5 c5) (by have := dist2.out; omega) (by have := dist2.out; omega) (by have := dist2.out; omega) (by have := dist2.out; omega) (oK.out.step cc))
              have mL := Lib.hid (Boxed.put KU n5)
              have mT := Lib.hid (Boxed.other (oT.out.step cc) (by have := dist2.out; omega) KU (.bool b5) (.slice p5 k5 c5))
              have mQ := Lib.hid (Boxed.other (oQ.out.step cc) (by have := dist2.out; omega) KU (.bool b5) (.slice p5 k5 c5))
              have mB := Lib.hid (show Below w.heap.size w ((w5.setCell ⟨L, 0, none⟩ (.bool b5)).setCell ⟨L, 1, none⟩ (.slice p5 k5 c5)) from Below.setCell (Below.setCell (below_step oB.out cc) (by have := dist2.out; show w.heap.size ≤ L; omega) _) (by have := dist2.out; show w.heap.size ≤ L; omega) _)
              clear KU n5
              go_upto_region 15 with (fail)
              generalize ((w5.setCell ⟨L, 0, none⟩ (.bool b5)).setCell ⟨L, 1, none⟩ (.slice p5 k5 c5)) = V3 at mK mL mT mQ mB ⊢
              clear cc N5 N4 c4 h4 h5 oK oT oQ oB Kl Nl Kt Nt Kl3 Kt3 Kl4 Kl5 mi sm SZ c3 h3
              have s4 := mB.out.size
              obtain ⟨yb, yp, yn, yc, Ky, Ny⟩ := mQ.out; have Ky := Lib.hid Ky; have Ny := Lib.hid Ny
              have y0h := (Ky.out.get Q 0 (.bool yb) (by simp)).2.1; have fy0h := (Ky.out.get Q 0 (.bool yb) (by simp)).2.2; have y1h := (Ky.out.get Q 1 (.slice yp yn yc) (by simp)).2.1; have fy1h := (Ky.out.get Q 1 (.slice yp yn yc) (by simp)).2.2
              have sm := Lib.hid (fun wx v (hx : Below V3.heap.size V3 wx) (hv : NumR wx v 1) => refSum_any _ v (q' + q') 1 wx (Ny.out.later hx (Nat.le_refl _)) hv (hI.out.q2b A1.out) one_big)
              go_wp2_with (fail); go_at_call 26; refine (sm.out _ _ (by repeat (first | exact Below.refl _ _ | assumption | refine below_drewN ?_ _ | refine Below.drew ?_ | refine Below.alloc ?_ (by first | omega | (simp; done) | (simp; omega)) _ | refine Below.setCell ?_ (by first | (simp; done) | (simp; omega)) _)) (NumR.unit _ _ false)).mono ?_; rintro e w6 ⟨v6, rfl, n6, h6⟩
              obtain ⟨b6, p6, k6, c6, rfl⟩ := n6.form
              have cc : Below V3.heap.size V3 w6 := below_step (by repeat (first | exact Below.refl _ _ | assumption | refine below_drewN ?_ _ | refine Below.drew ?_ | refine Below.alloc ?_ (by first | omega | (simp; done) | (simp; omega)) _ | refine Below.setCell ?_ (by first | (simp; done) | (simp; omega)) _)) h6
              have oK := mK; have oT := mT; have oL := mL; have oB := mB
              clear mK mT mL mB
              have KU := Ky.out.step cc
              have y0ui := (KU.get Q 0 (.bool yb) (by simp)).2.1; have fy0ui := (KU.get Q 0 (.bool yb) (by simp)).2.2; have y1ui := (KU.get Q 1 (.slice yp yn yc) (by simp)).2.1; have fy1ui := (KU.get Q 1 (.slice yp yn yc) (by simp)).2.2
              have mK := Lib.hid (KO.out w6 Q (.bool b6) (.slice p6 k6 c6) (by have := dist2.out; omega) (by have := dist2.out; omega) (by have := dist2.out; omega) (by have := dist2.out; omega) (oK.out.step cc))
              have mQ := Lib.hid (Boxed.put KU n6)
              have mT := Lib.hid (Boxed.other (oT.out.step cc) (by have := dist2.out; omega) KU (.bool b6) (.slice p6 k6 c6))
              have mL := Lib.hid (Boxed.other (oL.out.step cc) (by have := dist2.out; omega) KU (.bool b6) (.slice p6 k6 c6))
              have mB := Lib.hid (show Below w.heap.size w ((w6.setCell ⟨Q, 0, none⟩ (.bool b6)).setCell ⟨Q, 1, none⟩ (.slice p6 k6 c6)) from Below.setCell (Below.setCell (below_step oB.out cc) (by have := dist2.out; show w.heap.size ≤ Q; omega) _) (by have := dist2.out; show w.heap.size ≤ Q; omega) _)
              clear KU n6
              go_wp2_with (fail)
              go_roundw
              case rel => exact ⟨k + 1, t', l + -t', q' + q' + 1, by omega, by go_num, mK.out, mT.out, mL.out, mQ.out, hI.out.yes hlt IT.out I2.out HLE.out, mB.out⟩
              case measure => simp [intOf]; omega
          · obtain ⟨r, hr, hr0⟩ : ∃ r, cmpI l t' = r ∧ decide (0 ≤ r) = false := ⟨_, rfl, by rw [cmpI_lt (by omega)]; rfl⟩
            rw [hr] at szc
            have SZ := Lib.hid szc
            have HLE := Lib.hid (show l < t' by omega)
            clear szc hr hle
            go_wp2_with (fail); go_at_call 29; refine (SZ.out _ (by repeat (first | exact Below.refl _ _ | assumption | refine below_drewN ?_ _ | refine Below.drew ?_ | refine Below.alloc ?_ (by first | omega | (simp; done) | (simp; omega)) _ | refine Below.setCell ?_ (by first | (simp; done) | (simp; omega)) _))).mono ?_; rintro e w3 ⟨rfl, h3⟩
            have c3 : Below V2.heap.size V2 w3 := below_step (by repeat (first | exact Below.refl _ _ | assumption | refine below_drewN ?_ _ | refine Below.drew ?_ | refine Below.alloc ?_ (by first | omega | (simp; done) | (simp; omega)) _ | refine Below.setCell ?_ (by first | (simp; done) | (simp; omega)) _)) h3
            have iK := Lib.hid (mK.out.step c3); have iT := Lib.hid (mT.out.step c3); have iL := Lib.hid (mL.out.step c3); have iQ := Lib.hid (mQ.out.step c3); have iB := Lib.hid (below_step mB.out c3)
            go_wp2_with (fail)
            go_roundw
            case rel => exact ⟨k + 1, t', l, q' + q', by omega, by go_num, iK.out, iT.out, iL.out, iQ.out, hI.out.no hlt IT.out I2.out HLE.out, iB.out⟩
            case measure => simp [intOf]; omega
        · obtain rfl : k = j := by omega
          have I := hI
          clear hI hlt hk
          obtain ⟨lb, lp, ln, lc, Kl, Nl⟩ := nL.out; have Kl := Lib.hid Kl; have Nl := Lib.hid Nl
          have l0a := (Kl.out.get L 0 (.bool lb) (by simp)).2.1; have fl0a := (Kl.out.get L 0 (.bool lb) (by simp)).2.2; have l1a := (Kl.out.get L 1 (.slice lp ln lc) (by simp)).2.1; have fl1a := (Kl.out.get L 1 (.slice lp ln lc) (by simp)).2.2
          obtain ⟨qb, qp, qn, qc, Kq, Nq⟩ := nQ.out; have Kq := Lib.hid Kq; have Nq := Lib.hid Nq
          have q0a := (Kq.out.get Q 0 (.bool qb) (by simp)).2.1; have fq0a := (Kq.out.get Q 0 (.bool qb) (by simp)).2.2; have q1a := (Kq.out.get Q 1 (.slice qp qn qc) (by simp)).2.1; have fq1a := (Kq.out.get Q 1 (.slice qp qn qc) (by simp)).2.2
          have xaa := (nK.out.get A 0 (.bool ba) (by simp)).2.1; have fxaa := (nK.out.get A 0 (.bool ba) (by simp)).2.2; have yaa := (nK.out.get B 0 (.bool bb) (by simp)).2.1; have fyaa := (nK.out.get B 0 (.bool bb) (by simp)).2.2; have yba := (nK.out.get B 1 (.slice q m d) (by simp)).2.1; have fyba := (nK.out.get B 1 (.slice q m d) (by simp)).2.2
          have hll := Nl.out.len_iff
          have sA := HA.out.neg_iff; have sB := HB.out.neg_iff
          have hTL := Nl.out
          obtain ⟨s, hs, hs1⟩ : ∃ s : Bool, s = (ba && decide (ln ≠ 0)) ∧ (ln = 0 → s = false) := ⟨_, rfl, fun h => by simp [h]⟩
          have hs2 : s = true ↔ a < 0 ∧ 0 < l := by rw [hs, Bool.and_eq_true, decide_eq_true_eq, sA]; have := I.out.l0; exact ⟨fun h => ⟨h.1, by omega⟩, fun h => ⟨h.1, by omega⟩⟩
          have cs : (ba = false ∧ s = false) ∨ (ba = true ∧ s = false ∧ decide (0 < ln) = false) ∨ (ba = true ∧ s = true ∧ decide (0 < ln) = true) := by
            rw [hs]
            cases ba
            · exact .inl ⟨rfl, rfl⟩
            · by_cases h : ln = 0
              · exact .inr (.inl ⟨rfl, by simp [h], by simp [h]⟩)
              · exact .inr (.inr ⟨rfl, by simp [h], by simp; omega⟩)
          have mL := Boxed.sign Kl.out Nl.out I.out.l0 s hs1
          rw [show (if s = true then -l else l) = (if a < 0 then -l else l) by have := I.out.l0; by_cases h : a < 0 <;> by_cases h2 : 0 < l <;> simp [hs2, h, h2] <;> omega] at mL
          have mL := Lib.hid mL
          have mK := Lib.hid (KO1.out wr (.bool s) nK.out)
          have mQ := Lib.hid (Boxed.other1 nQ.out (show Q ≠ L by have := dist2.out; omega) Kl.out s)
          have mB := Lib.hid (show Below w.heap.size w (wr.setCell ⟨L, 0, none⟩ (.bool s)) from Below.setCell nB.out (by have := dist2.out; show w.heap.size ≤ L; omega) _)
          have SA := Lib.hid sA; have SB := Lib.hid sB
          obtain ⟨x, hx⟩ : ∃ x, (if a < 0 then -l else l) = x := ⟨_, rfl⟩
          rw [hx] at mL
          have HX := Lib.hid hx
          clear hs hs1 hs2 sA sB hll hTL nT hx
          rcases cs with ⟨rfl, rfl⟩ | ⟨rfl, rfl, hd⟩ | ⟨rfl, rfl, hd⟩
          case inl =>
            try (have hd' := Lib.hid hd)
            go_upto_region 17 with (fail)
            try clear hd
            generalize wr.setCell ⟨L, 0, none⟩ _ = V1 at mL mK mQ mB ⊢
            clear Kl Nl Kq Nq nL nQ nK nB
            have s5 := mB.out.size
            cases bb
            · have AR := Lib.hid (quo_like a b q' l x I.out (SA.out.symm.trans SB.out) HX.out)
              have gak := (mK.out.get A 0 (.bool false) (by simp)).2.1; have fgak := (mK.out.get A 0 (.bool false) (by simp)).2.2; have gbk := (mK.out.get B 0 (.bool false) (by simp)).2.1; have fgbk := (mK.out.get B 0 (.bool false) (by simp)).2.2; have gck := (mK.out.get B 1 (.slice q m d) (by simp)).2.1; have fgck := (mK.out.get B 1 (.slice q m d) (by simp)).2.2
              go_upto_region 22 with (fail)
              have s0k := (mK.out.get S 0 (.bool false) (by simp)).2.1; have r0k := (mK.out.get R 0 (.bool false) (by simp)).2.1; have r1k := (mK.out.get R 1 (.slice none 0 0) (by simp)).2.1; have s1k := (mK.out.get S 1 (.slice none 0 0) (by simp)).2.1
              have fr0 := (mK.out.get R 0 (.bool false) (by simp)).2.2; have fr1 := (mK.out.get R 1 (.slice none 0 0) (by simp)).2.2; have fs0 := (mK.out.get S 0 (.bool false) (by simp)).2.2; have fs1 := (mK.out.get S 1 (.slice none 0 0) (by simp)).2.2
              obtain ⟨qb, qp, qn, qc, Kq, Nq⟩ := mQ.out; have Kq := Lib.hid Kq; have Nq := Lib.hid Nq
              have q0w := (Kq.out.get Q 0 (.bool qb) (by simp)).2.1; have fq0w := (Kq.out.get Q 0 (.bool qb) (by simp)).2.2; have q1w := (Kq.out.get Q 1 (.slice qp qn qc) (by simp)).2.1; have fq1w := (Kq.out.get Q 1 (.slice qp qn qc) (by simp)).2.2
              obtain ⟨lb, lp, ln, lc, Kl, Nl⟩ := mL.out; have Kl := Lib.hid Kl; have Nl := Lib.hid Nl
              have l0w := (Kl.out.get L 0 (.bool lb) (by simp)).2.1; have fl0w := (Kl.out.get L 0 (.bool lb) (by simp)).2.2; have l1w := (Kl.out.get L 1 (.slice lp ln lc) (by simp)).2.1; have fl1w := (Kl.out.get L 1 (.slice lp ln lc) (by simp)).2.2
              have nRS : ¬ R = S := by have := dist2.out; omega
              have nSR : ¬ S = R := by have := dist2.out; omega
              have nRQ : ¬ R = Q := by have := dist2.out; omega
              have nRL : ¬ R = L := by have := dist2.out; omega
              have nSQ : ¬ S = Q := by have := dist2.out; omega
              have nSL : ¬ S = L := by have := dist2.out; omega
              have fin := Lib.hid (quo_end (x0 := .bool qb) (x1 := .slice qp qn qc) (x2 := .bool lb) (x3 := .slice lp ln lc) V1 mK.out Nq.out Nl.out nRS (by have := dist2.out; omega) (by have := dist2.out; omega) mB.out r0k s0k)
              go_region
              all_goals go_wp2_with (fail)
              all_goals exact bodyPost_ret (v := .tuple #[.agg #[.bool qb, .slice qp qn qc], .agg #[.bool lb, .slice lp ln lc]]) (by simp [results, Try.results15, go_sem, r0k, r1k, s0k, s1k]) rfl ⟨_, _, _, _, rfl, fin.out.1, fin.out.2.1, AR.out.1, AR.out.2.1, AR.out.2.2, fin.out.2.2⟩
            · have hne := unlike SA.out SB.out (by decide)
              have xb : (x.natAbs : Int) < BIG := by have h1 := I.out.lb; have h2 := HX.out; have h3 := I.out.l0; split at h2 <;> omega
              have AR0 := Lib.hid (fun h => quo_zero a b q' l x I.out hne HX.out h)
              have AR1 := Lib.hid (fun h => quo_down a b q' l x I.out hne HX.out h)
              have xl : Hid (x = 0 ↔ l = 0) := Lib.hid (by have h2 := HX.out; have h3 := I.out.l0; split at h2 <;> omega)
              have XB := Lib.hid xb; have QB := Lib.hid (I.out.qb A1.out); have BB := Lib.hid (show (b.natAbs : Int) < BIG by have := B1.out; have := small_big; omega)
              clear hne xb
              have gak := (mK.out.get A 0 (.bool false) (by simp)).2.1; have fgak := (mK.out.get A 0 (.bool false) (by simp)).2.2; have gbk := (mK.out.get B 0 (.bool true) (by simp)).2.1; have fgbk := (mK.out.get B 0 (.bool true) (by simp)).2.2; have gck := (mK.out.get B 1 (.slice q m d) (by simp)).2.1; have fgck := (mK.out.get B 1 (.slice q m d) (by simp)).2.2
              obtain ⟨yb, yp, yn, yc, Ky, Ny⟩ := mQ.out; have Ky := Lib.hid Ky; have Ny := Lib.hid Ny
              have y0b := (Ky.out.get Q 0 (.bool yb) (by simp)).2.1; have fy0b := (Ky.out.get Q 0 (.bool yb) (by simp)).2.2; have y1b := (Ky.out.get Q 1 (.slice yp yn yc) (by simp)).2.1; have fy1b := (Ky.out.get Q 1 (.slice yp yn yc) (by simp)).2.2
              have sm := Lib.hid (fun wx (hx : Below V1.heap.size V1 wx) => minus_any _ q' wx (Ny.out.later hx (Nat.le_refl _)))
              go_wp2_with (fail); go_at_call 31; refine (sm.out _ (by repeat (first | exact Below.refl _ _ | assumption | refine below_drewN ?_ _ | refine Below.drew ?_ | refine Below.alloc ?_ (by first | omega | (simp; done) | (simp; omega)) _ | refine Below.setCell ?_ (by first | (simp; done) | (simp; omega)) _))).mono ?_; rintro e w6 ⟨v6, rfl, n6, h6⟩
              obtain ⟨b6, p6, k6, c6, rfl⟩ := n6.form
              have cc : Below V1.heap.size V1 w6 := below_step (by repeat (first | exact Below.refl _ _ | assumption | refine below_drewN ?_ _ | refine Below.drew ?_ | refine Below.alloc ?_ (by first | omega | (simp; done) | (simp; omega)) _ | refine Below.setCell ?_ (by first | (simp; done) | (simp; omega)) _)) h6
              have oK := mK; have oL := mL; have oB := mB
              clear mK mL mB
              have KU := Ky.out.step cc
              have y0ui := (KU.get Q 0 (.bool yb) (by simp)).2.1; have fy0ui := (KU.get Q 0 (.bool yb) (by simp)).2.2; have y1ui := (KU.get Q 1 (.slice yp yn yc) (by simp)).2.1; have fy1ui := (KU.get Q 1 (.slice yp yn yc) (by simp)).2.2
              have mK := Lib.hid (KO.out w6 Q (.bool b6) (.slice p6 k6 c6) (by have := dist2.out; omega) (by have := dist2.out; omega) (by have := dist2.out; omega) (by have := dist2.out; omega) (oK.out.step cc))
              have mQ := Lib.hid (Boxed.put KU n6)
              have mL := Lib.hid (Boxed.other (oL.out.step cc) (by have := dist2.out; omega) KU (.bool b6) (.slice p6 k6 c6))
              have mB := Lib.hid (show Below w.heap.size w ((w6.setCell ⟨Q, 0, none⟩ (.bool b6)).setCell ⟨Q, 1, none⟩ (.slice p6 k6 c6)) from Below.setCell (Below.setCell (below_step oB.out cc) (by have := dist2.out; show w.heap.size ≤ Q; omega) _) (by have := dist2.out; show w.heap.size ≤ Q; omega) _)
              clear KU n6
              go_upto_region 19 with (fail)
              generalize ((w6.setCell ⟨Q, 0, none⟩ (.bool b6)).setCell ⟨Q, 1, none⟩ (.slice p6 k6 c6)) = V2 at mK mQ mL mB ⊢
              clear cc h6 oK oL oB Ky Ny sm
              have s6 := mB.out.size
              obtain ⟨lb, lp, ln, lc, Kl, Nl⟩ := mL.out; have Kl := Lib.hid Kl; have Nl := Lib.hid Nl
              have l0j := (Kl.out.get L 0 (.bool lb) (by simp)).2.1; have fl0j := (Kl.out.get L 0 (.bool lb) (by simp)).2.2; have l1j := (Kl.out.get L 1 (.slice lp ln lc) (by simp)).2.1; have fl1j := (Kl.out.get L 1 (.slice lp ln lc) (by simp)).2.2
              have hll := Nl.out.len_iff
              have xl' := xl.out
              by_cases hl0 : l = 0
              · have hd : decide (0 < ln) = false := by simp; omega
                have AR := Lib.hid (AR0.out hl0)
                clear hll xl' hl0 Kl Nl
                go_upto_region 22 with (fail)
                clear hd l0j fl0j l1j fl1j
                have s0k := (mK.out.get S 0 (.bool false) (by simp)).2.1; have r0k := (mK.out.get R 0 (.bool false) (by simp)).2.1; have r1k := (mK.out.get R 1 (.slice none 0 0) (by simp)).2.1; have s1k := (mK.out.get S 1 (.slice none 0 0) (by simp)).2.1
                have fr0 := (mK.out.get R 0 (.bool false) (by simp)).2.2; have fr1 := (mK.out.get R 1 (.slice none 0 0) (by simp)).2.2; have fs0 := (mK.out.get S 0 (.bool false) (by simp)).2.2; have fs1 := (mK.out.get S 1 (.slice none 0 0) (by simp)).2.2
                obtain ⟨qb, qp, qn, qc, Kq, Nq⟩ := mQ.out; have Kq := Lib.hid Kq; have Nq := Lib.hid Nq
                have q0w := (Kq.out.get Q 0 (.bool qb) (by simp)).2.1; have fq0w := (Kq.out.get Q 0 (.bool qb) (by simp)).2.2; have q1w := (Kq.out.get Q 1 (.slice qp qn qc) (by simp)).2.1; have fq1w := (Kq.out.get Q 1 (.slice qp qn qc) (by simp)).2.2
                obtain ⟨lb, lp, ln, lc, Kl, Nl⟩ := mL.out; have Kl := Lib.hid Kl; have Nl := Lib.hid Nl
                have l0w := (Kl.out.get L 0 (.bool lb) (by simp)).2.1; have fl0w := (Kl.out.get L 0 (.bool lb) (by simp)).2.2; have l1w := (Kl.out.get L 1 (.slice lp ln lc) (by simp)).2.1; have fl1w := (Kl.out.get L 1 (.slice lp ln lc) (by simp)).2.2
                have nRS : ¬ R = S := by have := dist2.out; omega
                have nSR : ¬ S = R := by have := dist2.out; omega
                have nRQ : ¬ R = Q := by have := dist2.out; omega
                have nRL : ¬ R = L := by have := dist2.out; omega
                have nSQ : ¬ S = Q := by have := dist2.out; omega
                have nSL : ¬ S = L := by have := dist2.out; omega
                have fin := Lib.hid (quo_end (x0 := .bool qb) (x1 := .slice qp qn qc) (x2 := .bool lb) (x3 := .slice lp ln lc) V2 mK.out Nq.out Nl.out nRS (by have := dist2.out; omega) (by have := dist2.out; omega) mB.out r0k s0k)
                go_region
                all_goals go_wp2_with (fail)
                all_goals exact bodyPost_ret (v := .tuple #[.agg #[.bool qb, .slice qp qn qc], .agg #[.bool lb, .slice lp ln lc]]) (by simp [results, Try.results15, go_sem, r0k, r1k, s0k, s1k]) rfl ⟨_, _, _, _, rfl, fin.out.1, fin.out.2.1, AR.out.1, AR.out.2.1, AR.out.2.2, fin.out.2.2⟩
              · have hd : decide (0 < ln) = true := by simp; omega
                have AR := Lib.hid (AR1.out hl0)
                clear hll xl' hl0 Kl Nl
                obtain ⟨yb, yp, yn, yc, Ky, Ny⟩ := mQ.out; have Ky := Lib.hid Ky; have Ny := Lib.hid Ny
                have y0l := (Ky.out.get Q 0 (.bool yb) (by simp)).2.1; have fy0l := (Ky.out.get Q 0 (.bool yb) (by simp)).2.2; have y1l := (Ky.out.get Q 1 (.slice yp yn yc) (by simp)).2.1; have fy1l := (Ky.out.get Q 1 (.slice yp yn yc) (by simp)).2.2
                have sm := Lib.hid (fun wx v (hx : Below V2.heap.size V2 wx) (hv : NumR wx v (-1)) => refSum_any _ v (-q') (-1) wx (Ny.out.later hx (Nat.le_refl _)) hv (by have := QB.out; omega) minus_one_big)
                go_wp2_with (fail); go_at_call 26; refine (sm.out _ _ (by repeat (first | exact Below.refl _ _ | assumption | refine below_drewN ?_ _ | refine Below.drew ?_ | refine Below.alloc ?_ (by first | omega | (simp; done) | (simp; omega)) _ | refine Below.setCell ?_ (by first | (simp; done) | (simp; omega)) _)) (NumR.unit _ _ true)).mono ?_; rintro e w7 ⟨v7, rfl, n7, h7⟩
                clear hd
                obtain ⟨b7, p7, k7, c7, rfl⟩ := n7.form
                have cc : Below V2.heap.size V2 w7 := below_step (by repeat (first | exact Below.refl _ _ | assumption | refine below_drewN ?_ _ | refine Below.drew ?_ | refine Below.alloc ?_ (by first | omega | (simp; done) | (simp; omega)) _ | refine Below.setCell ?_ (by first | (simp; done) | (simp; omega)) _)) h7
                have oK := mK; have oL := mL; have oB := mB
                clear mK mL mB
                have KU := Ky.out.step cc
                have y0um := (KU.get Q 0 (.bool yb) (by simp)).2.1; have fy0um := (KU.get Q 0 (.bool yb) (by simp)).2.2; have y1um := (KU.get Q 1 (.slice yp yn yc) (by simp)).2.1; have fy1um := (KU.get Q 1 (.slice yp yn yc) (by simp)).2.2
                have mK := Lib.hid (KO.out w7 Q (.bool b7) (.slice p7 k7 c7) (by have := dist2.out; omega) (by have := dist2.out; omega) (by have := dist2.out; omega) (by have := dist2.out; omega) (oK.out.step cc))
                have mQ := Lib.hid (Boxed.put KU n7)
                have mL := Lib.hid (Boxed.other (oL.out.step cc) (by have := dist2.out; omega) KU (.bool b7) (.slice p7 k7 c7))
                have mB := Lib.hid (show Below w.heap.size w ((w7.setCell ⟨Q, 0, none⟩ (.bool b7)).setCell ⟨Q, 1, none⟩ (.slice p7 k7 c7)) from Below.setCell (Below.setCell (below_step oB.out cc) (by have := dist2.out; show w.heap.size ≤ Q; omega) _) (by have := dist2.out; show w.heap.size ≤ Q; omega) _)
                clear KU n7
                go_upto_region 21 with (fail)
                generalize ((w7.setCell ⟨Q, 0, none⟩ (.bool b7)).setCell ⟨Q, 1, none⟩ (.slice p7 k7 c7)) = V3 at mK mQ mL mB ⊢
                clear cc h7 oK oL oB Ky Ny sm
                have s7 := mB.out.size
                obtain ⟨lb, lp, ln, lc, Kl, Nl⟩ := mL.out; have Kl := Lib.hid Kl; have Nl := Lib.hid Nl
                have l0n := (Kl.out.get L 0 (.bool lb) (by simp)).2.1; have fl0n := (Kl.out.get L 0 (.bool lb) (by simp)).2.2; have l1n := (Kl.out.get L 1 (.slice lp ln lc) (by simp)).2.1; have fl1n := (Kl.out.get L 1 (.slice lp ln lc) (by simp)).2.2
                have gan := (mK.out.get A 0 (.bool false) (by simp)).2.1; have fgan := (mK.out.get A 0 (.bool false) (by simp)).2.2; have gbn := (mK.out.get B 0 (.bool true) (by simp)).2.1; have fgbn := (mK.out.get B 0 (.bool true) (by simp)).2.2; have gcn := (mK.out.get B 1 (.slice q m d) (by simp)).2.1; have fgcn := (mK.out.get B 1 (.slice q m d) (by simp)).2.2
                have sm := Lib.hid (fun wx (hx : Below V3.heap.size V3 wx) => refSum_any _ _ x b wx (Nl.out.later hx (Nat.le_refl _)) (HB.out.later (mB.out.trans (hx.mono (by exact mB.out.size))) (Nat.le_refl _)) XB.out BB.out)
                go_wp2_with (fail); go_at_call 26; refine (sm.out _ (by repeat (first | exact Below.refl _ _ | assumption | refine below_drewN ?_ _ | refine Below.drew ?_ | refine Below.alloc ?_ (by first | omega | (simp; done) | (simp; omega)) _ | refine Below.setCell ?_ (by first | (simp; done) | (simp; omega)) _))).mono ?_; rintro e w8 ⟨v8, rfl, n8, h8⟩
                obtain ⟨b8, p8, k8, c8, rfl⟩ := n8.form
                have cc : Below V3.heap.size V3 w8 := below_step (by repeat (first | exact Below.refl _ _ | assumption | refine below_drewN ?_ _ | refine Below.drew ?_ | refine Below.alloc ?_ (by first | omega | (simp; done) | (simp; omega)) _ | refine Below.setCell ?_ (by first | (simp; done) | (simp; omega)) _)) h8
                have oK := mK; have oQ := mQ; have oB := mB
                clear mK mQ mB mL
                have KU := Kl.out.step cc
                have l0uo := (KU.get L 0 (.bool lb) (by simp)).2.1; have fl0uo := (KU.get L 0 (.bool lb) (by simp)).2.2; have l1uo := (KU.get L 1 (.slice lp ln lc) (by simp)).2.1; have fl1uo := (KU.get L 1 (.slice lp ln lc) (by simp)).2.2
                have mK := Lib.hid (KO.out w8 L (.bool b8) (.slice p8 k8 c8) (by have := dist2.out; omega) (by have := dist2.out; omega) (by have := dist2.out; omega) (by have := dist2.out; omega) (oK.out.step cc))
                have mL := Lib.hid (Boxed.put KU n8)
                have mQ := Lib.hid (Boxed.other (oQ.out.step cc) (by have := dist2.out; omega) KU (.bool b8) (.slice p8 k8 c8))
                have mB := Lib.hid (show Below w.heap.size w ((w8.setCell ⟨L, 0, none⟩ (.bool b8)).setCell ⟨L, 1, none⟩ (.slice p8 k8 c8)) from Below.setCell (Below.setCell (below_step oB.out cc) (by have := dist2.out; show w.heap.size ≤ L; omega) _) (by have := dist2.out; show w.heap.size ≤ L; omega) _)
                clear KU n8
                go_upto_region 22 with (fail)
                generalize ((w8.setCell ⟨L, 0, none⟩ (.bool b8)).setCell ⟨L, 1, none⟩ (.slice p8 k8 c8)) = V4 at mK mL mQ mB ⊢
                clear cc h8 oK oQ oB Kl Nl sm
                have s8 := mB.out.size
                have s0k := (mK.out.get S 0 (.bool false) (by simp)).2.1; have r0k := (mK.out.get R 0 (.bool false) (by simp)).2.1; have r1k := (mK.out.get R 1 (.slice none 0 0) (by simp)).2.1; have s1k := (mK.out.get S 1 (.slice none 0 0) (by simp)).2.1
                have fr0 := (mK.out.get R 0 (.bool false) (by simp)).2.2; have fr1 := (mK.out.get R 1 (.slice none 0 0) (by simp)).2.2; have fs0 := (mK.out.get S 0 (.bool false) (by simp)).2.2; have fs1 := (mK.out.get S 1 (.slice none 0 0) (by simp)).2.2
                obtain ⟨qb, qp, qn, qc, Kq, Nq⟩ := mQ.out; have Kq := Lib.hid Kq; have Nq := Lib.hid Nq
                have q0w := (Kq.out.get Q 0 (.bool qb) (by simp)).2.1; have fq0w := (Kq.out.get Q 0 (.bool qb) (by simp)).2.2; have q1w := (Kq.out.get Q 1 (.slice qp qn qc) (by simp)).2.1; have fq1w := (Kq.out.get Q 1 (.slice qp qn qc) (by simp)).2.2
                obtain ⟨lb, lp, ln, lc, Kl, Nl⟩ := mL.out; have Kl := Lib.hid Kl; have Nl := Lib.hid Nl
                have l0w := (Kl.out.get L 0 (.bool lb) (by simp)).2.1; have fl0w := (Kl.out.get L 0 (.bool lb) (by simp)).2.2; have l1w := (Kl.out.get L 1 (.slice lp ln lc) (by simp)).2.1; have fl1w := (Kl.out.get L 1 (.slice lp ln lc) (by simp)).2.2
                have nRS : ¬ R = S := by have := dist2.out; omega
                have nSR : ¬ S = R := by have := dist2.out; omega
                have nRQ : ¬ R = Q := by have := dist2.out; omega
                have nRL : ¬ R = L := by have := dist2.out; omega
                have nSQ : ¬ S = Q := by have := dist2.out; omega
                have nSL : ¬ S = L := by have := dist2.out; omega
                have fin := Lib.hid (quo_end (x0 := .bool qb) (x1 := .slice qp qn qc) (x2 := .bool lb) (x3 := .slice lp ln lc) V4 mK.out Nq.out Nl.out nRS (by have := dist2.out; omega) (by have := dist2.out; omega) mB.out r0k s0k)
                go_region
                all_goals go_wp2_with (fail)
                all_goals exact bodyPost_ret (v := .tuple #[.agg #[.bool qb, .slice qp qn qc], .agg #[.bool lb, .slice lp ln lc]]) (by simp [results, Try.results15, go_sem, r0k, r1k, s0k, s1k]) rfl ⟨_, _, _, _, rfl, fin.out.1, fin.out.2.1, AR.out.1, AR.out.2.1, AR.out.2.2, fin.out.2.2⟩
          case inr.inl =>
            try (have hd' := Lib.hid hd)
            go_upto_region 17 with (fail)
            try clear hd
            generalize wr.setCell ⟨L, 0, none⟩ _ = V1 at mL mK mQ mB ⊢
            clear Kl Nl Kq Nq nL nQ nK nB
            have s5 := mB.out.size
            cases bb
            · have hne := unlike SA.out SB.out (by decide)
              have xb : (x.natAbs : Int) < BIG := by have h1 := I.out.lb; have h2 := HX.out; have h3 := I.out.l0; split at h2 <;> omega
              have AR0 := Lib.hid (fun h => quo_zero a b q' l x I.out hne HX.out h)
              have AR1 := Lib.hid (fun h => quo_down a b q' l x I.out hne HX.out h)
              have xl : Hid (x = 0 ↔ l = 0) := Lib.hid (by have h2 := HX.out; have h3 := I.out.l0; split at h2 <;> omega)
              have XB := Lib.hid xb; have QB := Lib.hid (I.out.qb A1.out); have BB := Lib.hid (show (b.natAbs : Int) < BIG by have := B1.out; have := small_big; omega)
              clear hne xb
              have gak := (mK.out.get A 0 (.bool true) (by simp)).2.1; have fgak := (mK.out.get A 0 (.bool true) (by simp)).2.2; have gbk := (mK.out.get B 0 (.bool false) (by simp)).2.1; have fgbk := (mK.out.get B 0 (.bool false) (by simp)).2.2; have gck := (mK.out.get B 1 (.slice q m d) (by simp)).2.1; have fgck := (mK.out.get B 1 (.slice q m d) (by simp)).2.2
              obtain ⟨yb, yp, yn, yc, Ky, Ny⟩ := mQ.out; have Ky := Lib.hid Ky; have Ny := Lib.hid Ny
              have y0b := (Ky.out.get Q 0 (.bool yb) (by simp)).2.1; have fy0b := (Ky.out.get Q 0 (.bool yb) (by simp)).2.2; have y1b := (Ky.out.get Q 1 (.slice yp yn yc) (by simp)).2.1; have fy1b := (Ky.out.get Q 1 (.slice yp yn yc) (by simp)).2.2
              have sm := Lib.hid (fun wx (hx : Below V1.heap.size V1 wx) => minus_any _ q' wx (Ny.out.later hx (Nat.le_refl _)))
              go_wp2_with (fail); go_at_call 31; refine (sm.out _ (by repeat (first | exact Below.refl _ _ | assumption | refine below_drewN ?_ _ | refine Below.drew ?_ | refine Below.alloc ?_ (by first | omega | (simp; done) | (simp; omega)) _ | refine Below.setCell ?_ (by first | (simp; done) | (simp; omega)) _))).mono ?_; rintro e w6 ⟨v6, rfl, n6, h6⟩
              obtain ⟨b6, p6, k6, c6, rfl⟩ := n6.form
              have cc : Below V1.heap.size V1 w6 := below_step (by repeat (first | exact Below.refl _ _ | assumption | refine below_drewN ?_ _ | refine Below.drew ?_ | refine Below.alloc ?_ (by first | omega | (simp; done) | (simp; omega)) _ | refine Below.setCell ?_ (by first | (simp; done) | (simp; omega)) _)) h6
              have oK := mK; have oL := mL; have oB := mB
              clear mK mL mB
              have KU := Ky.out.step cc
              have y0ui := (KU.get Q 0 (.bool yb) (by simp)).2.1; have fy0ui := (KU.get Q 0 (.bool yb) (by simp)).2.2; have y1ui := (KU.get Q 1 (.slice yp yn yc) (by simp)).2.1; have fy1ui := (KU.get Q 1 (.slice yp yn yc) (by simp)).2.2
              have mK := Lib.hid (KO.out w6 Q (.bool b6) (.slice p6 k6 c6) (by have := dist2.out; omega) (by have := dist2.out; omega) (by have := dist2.out; omega) (by have := dist2.out; omega) (oK.out.step cc))
              have mQ := Lib.hid (Boxed.put KU n6)
              have mL := Lib.hid (Boxed.other (oL.out.step cc) (by have := dist2.out; omega) KU (.bool b6) (.slice p6 k6 c6))
              have mB := Lib.hid (show Below w.heap.size w ((w6.setCell ⟨Q, 0, none⟩ (.bool b6)).setCell ⟨Q, 1, none⟩ (.slice p6 k6 c6)) from Below.setCell (Below.setCell (below_step oB.out cc) (by have := dist2.out; show w.heap.size ≤ Q; omega) _) (by have := dist2.out; show w.heap.size ≤ Q; omega) _)
              clear KU n6
              go_upto_region 19 with (fail)
              generalize ((w6.setCell ⟨Q, 0, none⟩ (.bool b6)).setCell ⟨Q, 1, none⟩ (.slice p6 k6 c6)) = V2 at mK mQ mL mB ⊢
              clear cc h6 oK oL oB Ky Ny sm
              have s6 := mB.out.size
              obtain ⟨lb, lp, ln, lc, Kl, Nl⟩ := mL.out; have Kl := Lib.hid Kl; have Nl := Lib.hid Nl
              have l0j := (Kl.out.get L 0 (.bool lb) (by simp)).2.1; have fl0j := (Kl.out.get L 0 (.bool lb) (by simp)).2.2; have l1j := (Kl.out.get L 1 (.slice lp ln lc) (by simp)).2.1; have fl1j := (Kl.out.get L 1 (.slice lp ln lc) (by simp)).2.2
              have hll := Nl.out.len_iff
              have xl' := xl.out
              by_cases hl0 : l = 0
              · have hd : decide (0 < ln) = false := by simp; omega
                have AR := Lib.hid (AR0.out hl0)
                clear hll xl' hl0 Kl Nl
                go_upto_region 22 with (fail)
                clear hd l0j fl0j l1j fl1j
                have s0k := (mK.out.get S 0 (.bool false) (by simp)).2.1; have r0k := (mK.out.get R 0 (.bool false) (by simp)).2.1; have r1k := (mK.out.get R 1 (.slice none 0 0) (by simp)).2.1; have s1k := (mK.out.get S 1 (.slice none 0 0) (by simp)).2.1
                have fr0 := (mK.out.get R 0 (.bool false) (by simp)).2.2; have fr1 := (mK.out.get R 1 (.slice none 0 0) (by simp)).2.2; have fs0 := (mK.out.get S 0 (.bool false) (by simp)).2.2; have fs1 := (mK.out.get S 1 (.slice none 0 0) (by simp)).2.2
                obtain ⟨qb, qp, qn, qc, Kq, Nq⟩ := mQ.out; have Kq := Lib.hid Kq; have Nq := Lib.hid Nq
                have q0w := (Kq.out.get Q 0 (.bool qb) (by simp)).2.1; have fq0w := (Kq.out.get Q 0 (.bool qb) (by simp)).2.2; have q1w := (Kq.out.get Q 1 (.slice qp qn qc) (by simp)).2.1; have fq1w := (Kq.out.get Q 1 (.slice qp qn qc) (by simp)).2.2
                obtain ⟨lb, lp, ln, lc, Kl, Nl⟩ := mL.out; have Kl := Lib.hid Kl; have Nl := Lib.hid Nl
                have l0w := (Kl.out.get L 0 (.bool lb) (by simp)).2.1; have fl0w := (Kl.out.get L 0 (.bool lb) (by simp)).2.2; have l1w := (Kl.out.get L 1 (.slice lp ln lc) (by simp)).2.1; have fl1w := (Kl.out.get L 1 (.slice lp ln lc) (by simp)).2.2
                have nRS : ¬ R = S := by have := dist2.out; omega
                have nSR : ¬ S = R := by have := dist2.out; omega
                have nRQ : ¬ R = Q := by have := dist2.out; omega
                have nRL : ¬ R = L := by have := dist2.out; omega
                have nSQ : ¬ S = Q := by have := dist2.out; omega
                have nSL : ¬ S = L := by have := dist2.out; omega
                have fin := Lib.hid (quo_end (x0 := .bool qb) (x1 := .slice qp qn qc) (x2 := .bool lb) (x3 := .slice lp ln lc) V2 mK.out Nq.out Nl.out nRS (by have := dist2.out; omega) (by have := dist2.out; omega) mB.out r0k s0k)
                go_region
                all_goals go_wp2_with (fail)
                all_goals exact bodyPost_ret (v := .tuple #[.agg #[.bool qb, .slice qp qn qc], .agg #[.bool lb, .slice lp ln lc]]) (by simp [results, Try.results15, go_sem, r0k, r1k, s0k, s1k]) rfl ⟨_, _, _, _, rfl, fin.out.1, fin.out.2.1, AR.out.1, AR.out.2.1, AR.out.2.2, fin.out.2.2⟩
              · have hd : decide (0 < ln) = true := by simp; omega
                have AR := Lib.hid (AR1.out hl0)
                clear hll xl' hl0 Kl Nl
                obtain ⟨yb, yp, yn, yc, Ky, Ny⟩ := mQ.out; have Ky := Lib.hid Ky; have Ny := Lib.hid Ny
                have y0l := (Ky.out.get Q 0 (.bool yb) (by simp)).2.1; have fy0l := (Ky.out.get Q 0 (.bool yb) (by simp)).2.2; have y1l := (Ky.out.get Q 1 (.slice yp yn yc) (by simp)).2.1; have fy1l := (Ky.out.get Q 1 (.slice yp yn yc) (by simp)).2.2
                have sm := Lib.hid (fun wx v (hx : Below V2.heap.size V2 wx) (hv : NumR wx v (-1)) => refSum_any _ v (-q') (-1) wx (Ny.out.later hx (Nat.le_refl _)) hv (by have := QB.out; omega) minus_one_big)
                go_wp2_with (fail); go_at_call 26; refine (sm.out _ _ (by repeat (first | exact Below.refl _ _ | assumption | refine below_drewN ?_ _ | refine Below.drew ?_ | refine Below.alloc ?_ (by first | omega | (simp; done) | (simp; omega)) _ | refine Below.setCell ?_ (by first | (simp; done) | (simp; omega)) _)) (NumR.unit _ _ true)).mono ?_; rintro e w7 ⟨v7, rfl, n7, h7⟩
                clear hd
                obtain ⟨b7, p7, k7, c7, rfl⟩ := n7.form
                have cc : Below V2.heap.size V2 w7 := below_step (by repeat (first | exact Below.refl _ _ | assumption | refine below_drewN ?_ _ | refine Below.drew ?_ | refine Below.alloc ?_ (by first | omega | (simp; done) | (simp; omega)) _ | refine Below.setCell ?_ (by first | (simp; done) | (simp; omega)) _)) h7
                have oK := mK; have oL := mL; have oB := mB
                clear mK mL mB
                have KU := Ky.out.step cc
                have y0um := (KU.get Q 0 (.bool yb) (by simp)).2.1; have fy0um := (KU.get Q 0 (.bool yb) (by simp)).2.2; have y1um := (KU.get Q 1 (.slice yp yn yc) (by simp)).2.1; have fy1um := (KU.get Q 1 (.slice yp yn yc) (by simp)).2.2
                have mK := Lib.hid (KO.out w7 Q (.bool b7) (.slice p7 k7 c7) (by have := dist2.out; omega) (by have := dist2.out; omega) (by have := dist2.out; omega) (by have := dist2.out; omega) (oK.out.step cc))
                have mQ := Lib.hid (Boxed.put KU n7)
                have mL := Lib.hid (Boxed.other (oL.out.step cc) (by have := dist2.out; omega) KU (.bool b7) (.slice p7 k7 c7))
                have mB := Lib.hid (show Below w.heap.size w ((w7.setCell ⟨Q, 0, none⟩ (.bool b7)).setCell ⟨Q, 1, none⟩ (.slice p7 k7 c7)) from Below.setCell (Below.setCell (below_step oB.out cc) (by have := dist2.out; show w.heap.size ≤ Q; omega) _) (by have := dist2.out; show w.heap.size ≤ Q; omega) _)
                clear KU n7
                go_upto_region 21 with (fail)
                generalize ((w7.setCell ⟨Q, 0, none⟩ (.bool b7)).setCell ⟨Q, 1, none⟩ (.slice p7 k7 c7)) = V3 at mK mQ mL mB ⊢
                clear cc h7 oK oL oB Ky Ny sm
                have s7 := mB.out.size
                obtain ⟨lb, lp, ln, lc, Kl, Nl⟩ := mL.out; have Kl := Lib.hid Kl; have Nl := Lib.hid Nl
                have l0n := (Kl.out.get L 0 (.bool lb) (by simp)).2.1; have fl0n := (Kl.out.get L 0 (.bool lb) (by simp)).2.2; have l1n := (Kl.out.get L 1 (.slice lp ln lc) (by simp)).2.1; have fl1n := (Kl.out.get L 1 (.slice lp ln lc) (by simp)).2.2
                have gan := (mK.out.get A 0 (.bool true) (by simp)).2.1; have fgan := (mK.out.get A 0 (.bool true) (by simp)).2.2; have gbn := (mK.out.get B 0 (.bool false) (by simp)).2.1; have fgbn := (mK.out.get B 0 (.bool false) (by simp)).2.2; have gcn := (mK.out.get B 1 (.slice q m d) (by simp)).2.1; have fgcn := (mK.out.get B 1 (.slice q m d) (by simp)).2.2
                have sm := Lib.hid (fun wx (hx : Below V3.heap.size V3 wx) => refSum_any _ _ x b wx (Nl.out.later hx (Nat.le_refl _)) (HB.out.later (mB.out.trans (hx.mono (by exact mB.out.size))) (Nat.le_refl _)) XB.out BB.out)
                go_wp2_with (fail); go_at_call 26; refine (sm.out _ (by repeat (first | exact Below.refl _ _ | assumption | refine below_drewN ?_ _ | refine Below.drew ?_ | refine Below.alloc ?_ (by first | omega | (simp; done) | (simp; omega)) _ | refine Below.setCell ?_ (by first | (simp; done) | (simp; omega)) _))).mono ?_; rintro e w8 ⟨v8, rfl, n8, h8⟩
                obtain ⟨b8, p8, k8, c8, rfl⟩ := n8.form
                have cc : Below V3.heap.size V3 w8 := below_step (by repeat (first | exact Below.refl _ _ | assumption | refine below_drewN ?_ _ | refine Below.drew ?_ | refine Below.alloc ?_ (by first | omega | (simp; done) | (simp; omega)) _ | refine Below.setCell ?_ (by first | (simp; done) | (simp; omega)) _)) h8
                have oK := mK; have oQ := mQ; have oB := mB
                clear mK mQ mB mL
                have KU := Kl.out.step cc
                have l0uo := (KU.get L 0 (.bool lb) (by simp)).2.1; have fl0uo := (KU.get L 0 (.bool lb) (by simp)).2.2; have l1uo := (KU.get L 1 (.slice lp ln lc) (by simp)).2.1; have fl1uo := (KU.get L 1 (.slice lp ln lc) (by simp)).2.2
                have mK := Lib.hid (KO.out w8 L (.bool b8) (.slice p8 k8 c8) (by have := dist2.out; omega) (by have := dist2.out; omega) (by have := dist2.out; omega) (by have := dist2.out; omega) (oK.out.step cc))
                have mL := Lib.hid (Boxed.put KU n8)
                have mQ := Lib.hid (Boxed.other (oQ.out.step cc) (by have := dist2.out; omega) KU (.bool b8) (.slice p8 k8 c8))
                have mB := Lib.hid (show Below w.heap.size w ((w8.setCell ⟨L, 0, none⟩ (.bool b8)).setCell ⟨L, 1, none⟩ (.slice p8 k8 c8)) from Below.setCell (Below.setCell (below_step oB.out cc) (by have := dist2.out; show w.heap.size ≤ L; omega) _) (by have := dist2.out; show w.heap.size ≤ L; omega) _)
                clear KU n8
                go_upto_region 22 with (fail)
                generalize ((w8.setCell ⟨L, 0, none⟩ (.bool b8)).setCell ⟨L, 1, none⟩ (.slice p8 k8 c8)) = V4 at mK mL mQ mB ⊢
                clear cc h8 oK oQ oB Kl Nl sm
                have s8 := mB.out.size
                have s0k := (mK.out.get S 0 (.bool false) (by simp)).2.1; have r0k := (mK.out.get R 0 (.bool false) (by simp)).2.1; have r1k := (mK.out.get R 1 (.slice none 0 0) (by simp)).2.1; have s1k := (mK.out.get S 1 (.slice none 0 0) (by simp)).2.1
                have fr0 := (mK.out.get R 0 (.bool false) (by simp)).2.2; have fr1 := (mK.out.get R 1 (.slice none 0 0) (by simp)).2.2; have fs0 := (mK.out.get S 0 (.bool false) (by simp)).2.2; have fs1 := (mK.out.get S 1 (.slice none 0 0) (by simp)).2.2
                obtain ⟨qb, qp, qn, qc, Kq, Nq⟩ := mQ.out; have Kq := Lib.hid Kq; have Nq := Lib.hid Nq
                have q0w := (Kq.out.get Q 0 (.bool qb) (by simp)).2.1; have fq0w := (Kq.out.get Q 0 (.bool qb) (by simp)).2.2; have q1w := (Kq.out.get Q 1 (.slice qp qn qc) (by simp)).2.1; have fq1w := (Kq.out.get Q 1 (.slice qp qn qc) (by simp)).2.2
                obtain ⟨lb, lp, ln, lc, Kl, Nl⟩ := mL.out; have Kl := Lib.hid Kl; have Nl := Lib.hid Nl
                have l0w := (Kl.out.get L 0 (.bool lb) (by simp)).2.1; have fl0w := (Kl.out.get L 0 (.bool lb) (by simp)).2.2; have l1w := (Kl.out.get L 1 (.slice lp ln lc) (by simp)).2.1; have fl1w := (Kl.out.get L 1 (.slice lp ln lc) (by simp)).2.2
                have nRS : ¬ R = S := by have := dist2.out; omega
                have nSR : ¬ S = R := by have := dist2.out; omega
                have nRQ : ¬ R = Q := by have := dist2.out; omega
                have nRL : ¬ R = L := by have := dist2.out; omega
                have nSQ : ¬ S = Q := by have := dist2.out; omega
                have nSL : ¬ S = L := by have := dist2.out; omega
                have fin := Lib.hid (quo_end (x0 := .bool qb) (x1 := .slice qp qn qc) (x2 := .bool lb) (x3 := .slice lp ln lc) V4 mK.out Nq.out Nl.out nRS (by have := dist2.out; omega) (by have := dist2.out; omega) mB.out r0k s0k)
                go_region
                all_goals go_wp2_with (fail)
                all_goals exact bodyPost_ret (v := .tuple #[.agg #[.bool qb, .slice qp qn qc], .agg #[.bool lb, .slice lp ln lc]]) (by simp [results, Try.results15, go_sem, r0k, r1k, s0k, s1k]) rfl ⟨_, _, _, _, rfl, fin.out.1, fin.out.2.1, AR.out.1, AR.out.2.1, AR.out.2.2, fin.out.2.2⟩
            · have AR := Lib.hid (quo_like a b q' l x I.out (SA.out.symm.trans SB.out) HX.out)
              have gak := (mK.out.get A 0 (.bool true) (by simp)).2.1; have fgak := (mK.out.get A 0 (.bool true) (by simp)).2.2; have gbk := (mK.out.get B 0 (.bool true) (by simp)).2.1; have fgbk := (mK.out.get B 0 (.bool true) (by simp)).2.2; have gck := (mK.out.get B 1 (.slice q m d) (by simp)).2.1; have fgck := (mK.out.get B 1 (.slice q m d) (by simp)).2.2
              go_upto_region 22 with (fail)
              have s0k := (mK.out.get S 0 (.bool false) (by simp)).2.1; have r0k := (mK.out.get R 0 (.bool false) (by simp)).2.1; have r1k := (mK.out.get R 1 (.slice none 0 0) (by simp)).2.1; have s1k := (mK.out.get S 1 (.slice none 0 0) (by simp)).2.1
              have fr0 := (mK.out.get R 0 (.bool false) (by simp)).2.2; have fr1 := (mK.out.get R 1 (.slice none 0 0) (by simp)).2.2; have fs0 := (mK.out.get S 0 (.bool false) (by simp)).2.2; have fs1 := (mK.out.get S 1 (.slice none 0 0) (by simp)).2.2
              obtain ⟨qb, qp, qn, qc, Kq, Nq⟩ := mQ.out; have Kq := Lib.hid Kq; have Nq := Lib.hid Nq
              have q0w := (Kq.out.get Q 0 (.bool qb) (by simp)).2.1; have fq0w := (Kq.out.get Q 0 (.bool qb) (by simp)).2.2; have q1w := (Kq.out.get Q 1 (.slice qp qn qc) (by simp)).2.1; have fq1w := (Kq.out.get Q 1 (.slice qp qn qc) (by simp)).2.2
              obtain ⟨lb, lp, ln, lc, Kl, Nl⟩ := mL.out; have Kl := Lib.hid Kl; have Nl := Lib.hid Nl
              have l0w := (Kl.out.get L 0 (.bool lb) (by simp)).2.1; have fl0w := (Kl.out.get L 0 (.bool lb) (by simp)).2.2; have l1w := (Kl.out.get L 1 (.slice lp ln lc) (by simp)).2.1; have fl1w := (Kl.out.get L 1 (.slice lp ln lc) (by simp)).2.2
              have nRS : ¬ R = S := by have := dist2.out; omega
              have nSR : ¬ S = R := by have := dist2.out; omega
              have nRQ : ¬ R = Q := by have := dist2.out; omega
              have nRL : ¬ R = L := by have := dist2.out; omega
              have nSQ : ¬ S = Q := by have := dist2.out; omega
              have nSL : ¬ S = L := by have := dist2.out; omega
              have fin := Lib.hid (quo_end (x0 := .bool qb) (x1 := .slice qp qn qc) (x2 := .bool lb) (x3 := .slice lp ln lc) V1 mK.out Nq.out Nl.out nRS (by have := dist2.out; omega) (by have := dist2.out; omega) mB.out r0k s0k)
              go_region
              all_goals go_wp2_with (fail)
              all_goals exact bodyPost_ret (v := .tuple #[.agg #[.bool qb, .slice qp qn qc], .agg #[.bool lb, .slice lp ln lc]]) (by simp [results, Try.results15, go_sem, r0k, r1k, s0k, s1k]) rfl ⟨_, _, _, _, rfl, fin.out.1, fin.out.2.1, AR.out.1, AR.out.2.1, AR.out.2.2, fin.out.2.2⟩
          case inr.inr =>
            try (have hd' := Lib.hid hd)
            go_upto_region 17 with (fail)
            try clear hd
            generalize wr.setCell ⟨L, 0, none⟩ _ = V1 at mL mK mQ mB ⊢
            clear Kl Nl Kq Nq nL nQ nK nB
            have s5 := mB.out.size
            cases bb
            · have hne := unlike SA.out SB.out (by decide)
              have xb : (x.natAbs : Int) < BIG := by have h1 := I.out.lb; have h2 := HX.out; have h3 := I.out.l0; split at h2 <;> omega
              have AR0 := Lib.hid (fun h => quo_zero a b q' l x I.out hne HX.out h)
              have AR1 := Lib.hid (fun h => quo_down a b q' l x I.out hne HX.out h)
              have xl : Hid (x = 0 ↔ l = 0) := Lib.hid (by have h2 := HX.out; have h3 := I.out.l0; split at h2 <;> omega)
              have XB := Lib.hid xb; have QB := Lib.hid (I.out.qb A1.out); have BB := Lib.hid (show (b.natAbs : Int) < BIG by have := B1.out; have := small_big; omega)
              clear hne xb
              have gak := (mK.out.get A 0 (.bool true) (by simp)).2.1; have fgak := (mK.out.get A 0 (.bool true) (by simp)).2.2; have gbk := (mK.out.get B 0 (.bool false) (by simp)).2.1; have fgbk := (mK.out.get B 0 (.bool false) (by simp)).2.2; have gck := (mK.out.get B 1 (.slice q m d) (by simp)).2.1; have fgck := (mK.out.get B 1 (.slice q m d) (by simp)).2.2
              obtain ⟨yb, yp, yn, yc, Ky, Ny⟩ := mQ.out; have Ky := Lib.hid Ky; have Ny := Lib.hid Ny
              have y0b := (Ky.out.get Q 0 (.bool yb) (by simp)).2.1; have fy0b := (Ky.out.get Q 0 (.bool yb) (by simp)).2.2; have y1b := (Ky.out.get Q 1 (.slice yp yn yc) (by simp)).2.1; have fy1b := (Ky.out.get Q 1 (.slice yp yn yc) (by simp)).2.2
              have sm := Lib.hid (fun wx (hx : Below V1.heap.size V1 wx) => minus_any _ q' wx (Ny.out.later hx (Nat.le_refl _)))
              go_wp2_with (fail); go_at_call 31; refine (sm.out _ (by repeat (first | exact Below.refl _ _ | assumption | refine below_drewN ?_ _ | refine Below.drew ?_ | refine Below.alloc ?_ (by first | omega | (simp; done) | (simp; omega)) _ | refine Below.setCell ?_ (by first | (simp; done) | (simp; omega)) _))).mono ?_; rintro e w6 ⟨v6, rfl, n6, h6⟩
              obtain ⟨b6, p6, k6, c6, rfl⟩ := n6.form
              have cc : Below V1.heap.size V1 w6 := below_step (by repeat (first | exact Below.refl _ _ | assumption | refine below_drewN ?_ _ | refine Below.drew ?_ | refine Below.alloc ?_ (by first | omega | (simp; done) | (simp; omega)) _ | refine Below.setCell ?_ (by first | (simp; done) | (simp; omega)) _)) h6
              have oK := mK; have oL := mL; have oB := mB
              clear mK mL mB
              have KU := Ky.out.step cc
              have y0ui := (KU.get Q 0 (.bool yb) (by simp)).2.1; have fy0ui := (KU.get Q 0 (.bool yb) (by simp)).2.2; have y1ui := (KU.get Q 1 (.slice yp yn yc) (by simp)).2.1; have fy1ui := (KU.get Q 1 (.slice yp yn yc) (by simp)).2.2
              have mK := Lib.hid (KO.out w6 Q (.bool b6) (.slice p6 k6 c6) (by have := dist2.out; omega) (by have := dist2.out; omega) (by have := dist2.out; omega) (by have := dist2.out; omega) (oK.out.step cc))
              have mQ := Lib.hid (Boxed.put KU n6)
              have mL := Lib.hid (Boxed.other (oL.out.step cc) (by have := dist2.out; omega) KU (.bool b6) (.slice p6 k6 c6))
              have mB := Lib.hid (show Below w.heap.size w ((w6.setCell ⟨Q, 0, none⟩ (.bool b6)).setCell ⟨Q, 1, none⟩ (.slice p6 k6 c6)) from Below.setCell (Below.setCell (below_step oB.out cc) (by have := dist2.out; show w.heap.size ≤ Q; omega) _) (by have := dist2.out; show w.heap.size ≤ Q; omega) _)
              clear KU n6
              go_upto_region 19 with (fail)
              generalize ((w6.setCell ⟨Q, 0, none⟩ (.bool b6)).setCell ⟨Q, 1, none⟩ (.slice p6 k6 c6)) = V2 at mK mQ mL mB ⊢
              clear cc h6 oK oL oB Ky Ny sm
              have s6 := mB.out.size
              obtain ⟨lb, lp, ln, lc, Kl, Nl⟩ := mL.out; have Kl := Lib.hid Kl; have Nl := Lib.hid Nl
              have l0j := (Kl.out.get L 0 (.bool lb) (by simp)).2.1; have fl0j := (Kl.out.get L 0 (.bool lb) (by simp)).2.2; have l1j := (Kl.out.get L 1 (.slice lp ln lc) (by simp)).2.1; have fl1j := (Kl.out.get L 1 (.slice lp ln lc) (by simp)).2.2
              have hll := Nl.out.len_iff
              have xl' := xl.out
              by_cases hl0 : l = 0
              · have hd : decide (0 < ln) = false := by simp; omega
                have AR := Lib.hid (AR0.out hl0)
                clear hll xl' hl0 Kl Nl
                go_upto_region 22 with (fail)
                clear hd l0j fl0j l1j fl1j
                have s0k := (mK.out.get S 0 (.bool false) (by simp)).2.1; have r0k := (mK.out.get R 0 (.bool false) (by simp)).2.1; have r1k := (mK.out.get R 1 (.slice none 0 0) (by simp)).2.1; have s1k := (mK.out.get S 1 (.slice none 0 0) (by simp)).2.1
                have fr0 := (mK.out.get R 0 (.bool false) (by simp)).2.2; have fr1 := (mK.out.get R 1 (.slice none 0 0) (by simp)).2.2; have fs0 := (mK.out.get S 0 (.bool false) (by simp)).2.2; have fs1 := (mK.out.get S 1 (.slice none 0 0) (by simp)).2.2
                obtain ⟨qb, qp, qn, qc, Kq, Nq⟩ := mQ.out; have Kq := Lib.hid Kq; have Nq := Lib.hid Nq
                have q0w := (Kq.out.get Q 0 (.bool qb) (by simp)).2.1; have fq0w := (Kq.out.get Q 0 (.bool qb) (by simp)).2.2; have q1w := (Kq.out.get Q 1 (.slice qp qn qc) (by simp)).2.1; have fq1w := (Kq.out.get Q 1 (.slice qp qn qc) (by simp)).2.2
                obtain ⟨lb, lp, ln, lc, Kl, Nl⟩ := mL.out; have Kl := Lib.hid Kl; have Nl := Lib.hid Nl
                have l0w := (Kl.out.get L 0 (.bool lb) (by simp)).2.1; have fl0w := (Kl.out.get L 0 (.bool lb) (by simp)).2.2; have l1w := (Kl.out.get L 1 (.slice lp ln lc) (by simp)).2.1; have fl1w := (Kl.out.get L 1 (.slice lp ln lc) (by simp)).2.2
                have nRS : ¬ R = S := by have := dist2.out; omega
                have nSR : ¬ S = R := by have := dist2.out; omega
                have nRQ : ¬ R = Q := by have := dist2.out; omega
                have nRL : ¬ R = L := by have := dist2.out; omega
                have nSQ : ¬ S = Q := by have := dist2.out; omega
                have nSL : ¬ S = L := by have := dist2.out; omega
                have fin := Lib.hid (quo_end (x0 := .bool qb) (x1 := .slice qp qn qc) (x2 := .bool lb) (x3 := .slice lp ln lc) V2 mK.out Nq.out Nl.out nRS (by have := dist2.out; omega) (by have := dist2.out; omega) mB.out r0k s0k)
                go_region
                all_goals go_wp2_with (fail)
                all_goals exact bodyPost_ret (v := .tuple #[.agg #[.bool qb, .slice qp qn qc], .agg #[.bool lb, .slice lp ln lc]]) (by simp [results, Try.results15, go_sem, r0k, r1k, s0k, s1k]) rfl ⟨_, _, _, _, rfl, fin.out.1, fin.out.2.1, AR.out.1, AR.out.2.1, AR.out.2.2, fin.out.2.2⟩
              · have hd : decide (0 < ln) = true := by simp; omega
                have AR := Lib.hid (AR1.out hl0)
                clear hll xl' hl0 Kl Nl
                obtain ⟨yb, yp, yn, yc, Ky, Ny⟩ := mQ.out; have Ky := Lib.hid Ky; have Ny := Lib.hid Ny
                have y0l := (Ky.out.get Q 0 (.bool yb) (by simp)).2.1; have fy0l := (Ky.out.get Q 0 (.bool yb) (by simp)).2.2; have y1l := (Ky.out.get Q 1 (.slice yp yn yc) (by simp)).2.1; have fy1l := (Ky.out.get Q 1 (.slice yp yn yc) (by simp)).2.2
                have sm := Lib.hid (fun wx v (hx : Below V2.heap.size V2 wx) (hv : NumR wx v (-1)) => refSum_any _ v (-q') (-1) wx (Ny.out.later hx (Nat.le_refl _)) hv (by have := QB.out; omega) minus_one_big)
                go_wp2_with (fail); go_at_call 26; refine (sm.out _ _ (by repeat (first | exact Below.refl _ _ | assumption | refine below_drewN ?_ _ | refine Below.drew ?_ | refine Below.alloc ?_ (by first | omega | (simp; done) | (simp; omega)) _ | refine Below.setCell ?_ (by first | (simp; done) | (simp; omega)) _)) (NumR.unit _ _ true)).mono ?_; rintro e w7 ⟨v7, rfl, n7, h7⟩
                clear hd
                obtain ⟨b7, p7, k7, c7, rfl⟩ := n7.form
                have cc : Below V2.heap.size V2 w7 := below_step (by repeat (first | exact Below.refl _ _ | assumption | refine below_drewN ?_ _ | refine Below.drew ?_ | refine Below.alloc ?_ (by first | omega | (simp; done) | (simp; omega)) _ | refine Below.setCell ?_ (by first | (simp; done) | (simp; omega)) _)) h7
                have oK := mK; have oL := mL; have oB := mB
                clear mK mL mB
                have KU := Ky.out.step cc
                have y0um := (KU.get Q 0 (.bool yb) (by simp)).2.1; have fy0um := (KU.get Q 0 (.bool yb) (by simp)).2.2; have y1um := (KU.get Q 1 (.slice yp yn yc) (by simp)).2.1; have fy1um := (KU.get Q 1 (.slice yp yn yc) (by simp)).2.2
                have mK := Lib.hid (KO.out w7 Q (.bool b7) (.slice p7 k7 c7) (by have := dist2.out; omega) (by have := dist2.out; omega) (by have := dist2.out; omega) (by have := dist2.out; omega) (oK.out.step cc))
                have mQ := Lib.hid (Boxed.put KU n7)
                have mL := Lib.hid (Boxed.other (oL.out.step cc) (by have := dist2.out; omega) KU (.bool b7) (.slice p7 k7 c7))
                have mB := Lib.hid (show Below w.heap.size w ((w7.setCell ⟨Q, 0, none⟩ (.bool b7)).setCell ⟨Q, 1, none⟩ (.slice p7 k7 c7)) from Below.setCell (Below.setCell (below_step oB.out cc) (by have := dist2.out; show w.heap.size ≤ Q; omega) _) (by have := dist2.out; show w.heap.size ≤ Q; omega) _)
                clear KU n7
                go_upto_region 21 with (fail)
                generalize ((w7.setCell ⟨Q, 0, none⟩ (.bool b7)).setCell ⟨Q, 1, none⟩ (.slice p7 k7 c7)) = V3 at mK mQ mL mB ⊢
                clear cc h7 oK oL oB Ky Ny sm
                have s7 := mB.out.size
                obtain ⟨lb, lp, ln, lc, Kl, Nl⟩ := mL.out; have Kl := Lib.hid Kl; have Nl := Lib.hid Nl
                have l0n := (Kl.out.get L 0 (.bool lb) (by simp)).2.1; have fl0n := (Kl.out.get L 0 (.bool lb) (by simp)).2.2; have l1n := (Kl.out.get L 1 (.slice lp ln lc) (by simp)).2.1; have fl1n := (Kl.out.get L 1 (.slice lp ln lc) (by simp)).2.2
                have gan := (mK.out.get A 0 (.bool true) (by simp)).2.1; have fgan := (mK.out.get A 0 (.bool true) (by simp)).2.2; have gbn := (mK.out.get B 0 (.bool false) (by simp)).2.1; have fgbn := (mK.out.get B 0 (.bool false) (by simp)).2.2; have gcn := (mK.out.get B 1 (.slice q m d) (by simp)).2.1; have fgcn := (mK.out.get B 1 (.slice q m d) (by simp)).2.2
                have sm := Lib.hid (fun wx (hx : Below V3.heap.size V3 wx) => refSum_any _ _ x b wx (Nl.out.later hx (Nat.le_refl _)) (HB.out.later (mB.out.trans (hx.mono (by exact mB.out.size))) (Nat.le_refl _)) XB.out BB.out)
                go_wp2_with (fail); go_at_call 26; refine (sm.out _ (by repeat (first | exact Below.refl _ _ | assumption | refine below_drewN ?_ _ | refine Below.drew ?_ | refine Below.alloc ?_ (by first | omega | (simp; done) | (simp; omega)) _ | refine Below.setCell ?_ (by first | (simp; done) | (simp; omega)) _))).mono ?_; rintro e w8 ⟨v8, rfl, n8, h8⟩
                obtain ⟨b8, p8, k8, c8, rfl⟩ := n8.form
                have cc : Below V3.heap.size V3 w8 := below_step (by repeat (first | exact Below.refl _ _ | assumption | refine below_drewN ?_ _ | refine Below.drew ?_ | refine Below.alloc ?_ (by first | omega | (simp; done) | (simp; omega)) _ | refine Below.setCell ?_ (by first | (simp; done) | (simp; omega)) _)) h8
                have oK := mK; have oQ := mQ; have oB := mB
                clear mK mQ mB mL
                have KU := Kl.out.step cc
                have l0uo := (KU.get L 0 (.bool lb) (by simp)).2.1; have fl0uo := (KU.get L 0 (.bool lb) (by simp)).2.2; have l1uo := (KU.get L 1 (.slice lp ln lc) (by simp)).2.1; have fl1uo := (KU.get L 1 (.slice lp ln lc) (by simp)).2.2
                have mK := Lib.hid (KO.out w8 L (.bool b8) (.slice p8 k8 c8) (by have := dist2.out; omega) (by have := dist2.out; omega) (by have := dist2.out; omega) (by have := dist2.out; omega) (oK.out.step cc))
                have mL := Lib.hid (Boxed.put KU n8)
                have mQ := Lib.hid (Boxed.other (oQ.out.step cc) (by have := dist2.out; omega) KU (.bool b8) (.slice p8 k8 c8))
                have mB := Lib.hid (show Below w.heap.size w ((w8.setCell ⟨L, 0, none⟩ (.bool b8)).setCell ⟨L, 1, none⟩ (.slice p8 k8 c8)) from Below.setCell (Below.setCell (below_step oB.out cc) (by have := dist2.out; show w.heap.size ≤ L; omega) _) (by have := dist2.out; show w.heap.size ≤ L; omega) _)
                clear KU n8
                go_upto_region 22 with (fail)
                generalize ((w8.setCell ⟨L, 0, none⟩ (.bool b8)).setCell ⟨L, 1, none⟩ (.slice p8 k8 c8)) = V4 at mK mL mQ mB ⊢
                clear cc h8 oK oQ oB Kl Nl sm
                have s8 := mB.out.size
                have s0k := (mK.out.get S 0 (.bool false) (by simp)).2.1; have r0k := (mK.out.get R 0 (.bool false) (by simp)).2.1; have r1k := (mK.out.get R 1 (.slice none 0 0) (by simp)).2.1; have s1k := (mK.out.get S 1 (.slice none 0 0) (by simp)).2.1
                have fr0 := (mK.out.get R 0 (.bool false) (by simp)).2.2; have fr1 := (mK.out.get R 1 (.slice none 0 0) (by simp)).2.2; have fs0 := (mK.out.get S 0 (.bool false) (by simp)).2.2; have fs1 := (mK.out.get S 1 (.slice none 0 0) (by simp)).2.2
                obtain ⟨qb, qp, qn, qc, Kq, Nq⟩ := mQ.out; have Kq := Lib.hid Kq; have Nq := Lib.hid Nq
                have q0w := (Kq.out.get Q 0 (.bool qb) (by simp)).2.1; have fq0w := (Kq.out.get Q 0 (.bool qb) (by simp)).2.2; have q1w := (Kq.out.get Q 1 (.slice qp qn qc) (by simp)).2.1; have fq1w := (Kq.out.get Q 1 (.slice qp qn qc) (by simp)).2.2
                obtain ⟨lb, lp, ln, lc, Kl, Nl⟩ := mL.out; have Kl := Lib.hid Kl; have Nl := Lib.hid Nl
                have l0w := (Kl.out.get L 0 (.bool lb) (by simp)).2.1; have fl0w := (Kl.out.get L 0 (.bool lb) (by simp)).2.2; have l1w := (Kl.out.get L 1 (.slice lp ln lc) (by simp)).2.1; have fl1w := (Kl.out.get L 1 (.slice lp ln lc) (by simp)).2.2
                have nRS : ¬ R = S := by have := dist2.out; omega
                have nSR : ¬ S = R := by have := dist2.out; omega
                have nRQ : ¬ R = Q := by have := dist2.out; omega
                have nRL : ¬ R = L := by have := dist2.out; omega
                have nSQ : ¬ S = Q := by have := dist2.out; omega
                have nSL : ¬ S = L := by have := dist2.out; omega
                have fin := Lib.hid (quo_end (x0 := .bool qb) (x1 := .slice qp qn qc) (x2 := .bool lb) (x3 := .slice lp ln lc) V4 mK.out Nq.out Nl.out nRS (by have := dist2.out; omega) (by have := dist2.out; omega) mB.out r0k s0k)
                go_region
                all_goals go_wp2_with (fail)
                all_goals exact bodyPost_ret (v := .tuple #[.agg #[.bool qb, .slice qp qn qc], .agg #[.bool lb, .slice lp ln lc]]) (by simp [results, Try.results15, go_sem, r0k, r1k, s0k, s1k]) rfl ⟨_, _, _, _, rfl, fin.out.1, fin.out.2.1, AR.out.1, AR.out.2.1, AR.out.2.2, fin.out.2.2⟩
            · have AR := Lib.hid (quo_like a b q' l x I.out (SA.out.symm.trans SB.out) HX.out)
              have gak := (mK.out.get A 0 (.bool true) (by simp)).2.1; have fgak := (mK.out.get A 0 (.bool true) (by simp)).2.2; have gbk := (mK.out.get B 0 (.bool true) (by simp)).2.1; have fgbk := (mK.out.get B 0 (.bool true) (by simp)).2.2; have gck := (mK.out.get B 1 (.slice q m d) (by simp)).2.1; have fgck := (mK.out.get B 1 (.slice q m d) (by simp)).2.2
              go_upto_region 22 with (fail)
              have s0k := (mK.out.get S 0 (.bool false) (by simp)).2.1; have r0k := (mK.out.get R 0 (.bool false) (by simp)).2.1; have r1k := (mK.out.get R 1 (.slice none 0 0) (by simp)).2.1; have s1k := (mK.out.get S 1 (.slice none 0 0) (by simp)).2.1
              have fr0 := (mK.out.get R 0 (.bool false) (by simp)).2.2; have fr1 := (mK.out.get R 1 (.slice none 0 0) (by simp)).2.2; have fs0 := (mK.out.get S 0 (.bool false) (by simp)).2.2; have fs1 := (mK.out.get S 1 (.slice none 0 0) (by simp)).2.2
              obtain ⟨qb, qp, qn, qc, Kq, Nq⟩ := mQ.out; have Kq := Lib.hid Kq; have Nq := Lib.hid Nq
              have q0w := (Kq.out.get Q 0 (.bool qb) (by simp)).2.1; have fq0w := (Kq.out.get Q 0 (.bool qb) (by simp)).2.2; have q1w := (Kq.out.get Q 1 (.slice qp qn qc) (by simp)).2.1; have fq1w := (Kq.out.get Q 1 (.slice qp qn qc) (by simp)).2.2
              obtain ⟨lb, lp, ln, lc, Kl, Nl⟩ := mL.out; have Kl := Lib.hid Kl; have Nl := Lib.hid Nl
              have l0w := (Kl.out.get L 0 (.bool lb) (by simp)).2.1; have fl0w := (Kl.out.get L 0 (.bool lb) (by simp)).2.2; have l1w := (Kl.out.get L 1 (.slice lp ln lc) (by simp)).2.1; have fl1w := (Kl.out.get L 1 (.slice lp ln lc) (by simp)).2.2
              have nRS : ¬ R = S := by have := dist2.out; omega
              have nSR : ¬ S = R := by have := dist2.out; omega
              have nRQ : ¬ R = Q := by have := dist2.out; omega
              have nRL : ¬ R = L := by have := dist2.out; omega
              have nSQ : ¬ S = Q := by have := dist2.out; omega
              have nSL : ¬ S = L := by have := dist2.out; omega
              have fin := Lib.hid (quo_end (x0 := .bool qb) (x1 := .slice qp qn qc) (x2 := .bool lb) (x3 := .slice lp ln lc) V1 mK.out Nq.out Nl.out nRS (by have := dist2.out; omega) (by have := dist2.out; omega) mB.out r0k s0k)
              go_region
              all_goals go_wp2_with (fail)
              all_goals exact bodyPost_ret (v := .tuple #[.agg #[.bool qb, .slice qp qn qc], .agg #[.bool lb, .slice lp ln lc]]) (by simp [results, Try.results15, go_sem, r0k, r1k, s0k, s1k]) rfl ⟨_, _, _, _, rfl, fin.out.1, fin.out.2.1, AR.out.1, AR.out.2.1, AR.out.2.2, fin.out.2.2⟩
end Go.Proofs.Ytlfchlholabijaa
