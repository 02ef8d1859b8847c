/- The document's numbers: Sum of any two. -/
import Derived.Test.YtlfchlholabijaaRE
import Derived.Test.YtlfchlholabijaaRF
namespace Go.Proofs.Ytlfchlholabijaa
set_option linter.unusedVariables false
set_option maxRecDepth 2000
open Go.RowKit
attribute [local go_sem] setCell_twice setCell_pair

/-- a bound far above all numbers of the statements: forty digits -/
def BIG : Int := 65536 ^ 40
theorem len_le (ds : List Int) (hd : ∀ i, 0 ≤ ds.getD i 0 ∧ ds.getD i 0 ≤ 65535) (hc : ds = [] ∨ ds.getD (ds.length - 1) 0 ≠ 0) (hv : val ds < BIG) : ds.length ≤ 40 := by
  refine Nat.not_lt.1 fun h => ?_
  rcases hc with rfl | hc
  · simp at h
  obtain ⟨n, hn⟩ : ∃ n, ds.length = n + 1 := ⟨ds.length - 1, by omega⟩
  rw [val_V ds (n + 1) (by omega), V] at hv
  rw [hn, Nat.add_sub_cancel] at hc
  have h1 := V_lt (fun i => ds.getD i 0) n hd
  have h2 := hd n
  have hp : (0 : Int) < 65536 ^ n := Int.pow_pos (by omega)
  have h3 : 1 * (65536 : Int) ^ n ≤ ds.getD n 0 * 65536 ^ n := Int.mul_le_mul_of_nonneg_right (by omega) (by omega)
  have h4 : (65536 : Int) ^ 40 ≤ 65536 ^ n := by
    have : (65536 : Nat) ^ 40 ≤ 65536 ^ n := Nat.pow_le_pow_right (by omega) (by omega)
    have e : ∀ k : Nat, ((65536 ^ k : Nat) : Int) = 65536 ^ k := fun k => by rw [Int.natCast_pow]; rfl
    rw [← e, ← e]; omega
  unfold BIG at hv
  omega

theorem swap_core (ba bb : Bool) (hbb : ba = !bb) (p q : Option Addr) (n m c d : Nat) (da db : List Int) (z : Int) (w : World) (ha : SlR w (.slice p n c) da) (hb : SlR w (.slice q m d) db) (hn : n ≤ 1000) (hm : m ≤ 1000)
    (hla : da.length = n) (hlb : db.length = m) (dga : ∀ i, 0 ≤ da.getD i 0 ∧ da.getD i 0 ≤ 65535) (dgb : ∀ i, 0 ≤ db.getD i 0 ∧ db.getD i 0 ≤ 65535) (hlt : val da < val db)
    (rec : Hid (∀ wx, Below w.heap.size w wx → Calls Try.prog 26 #[.agg #[.bool bb, .slice q m d], .agg #[.bool ba, .slice p n c]] wx (NumE wx z))) :
    Calls Try.prog 26 #[.agg #[.bool ba, .slice p n c], .agg #[.bool bb, .slice q m d]] w (NumE w z) := by
  have sz := fun wx (h1 : Below w.heap.size w wx) => size_core ba bb p q n m c d da db (-1) wx (ha.later h1 (Nat.le_refl _)) (hb.later h1 (Nat.le_refl _)) (by omega) (by omega) hla hlb dga dgb (cmpI_lt hlt)
  have SZ := Lib.hid sz
  clear sz ha hb hla hlb dga dgb hlt
  cases ba <;> cases bb
  all_goals first | (exact absurd hbb (by decide)) | clear hbb
  all_goals
    go_enter Try.func26, Try.ntmps26
    go_wp2_with (first | (go_at_call 29; (with_reducible refine (SZ.out _ ?hx).mono ?_); (case hx => exact (by repeat (first | exact Below.refl _ _ | assumption | refine below_drewN ?_ _ | refine Below.drew ?_ | refine Below.alloc ?_ (by first | omega | (simp; done) | (simp; omega)) _ | refine Below.setCell ?_ (by first | (simp; done) | (simp; omega)) _))); rintro e w1 ⟨rfl, h1⟩; have hzs : w.heap.size + 1 + 1 < w1.heap.size := (by have := h1.size; (try simp at this); omega); have c00s := h1.cell (p := ⟨w.heap.size, 0, none⟩) (by first | omega | (simp; done) | (simp; omega)); have f00s := h1.frozen (p := ⟨w.heap.size, 0, none⟩) (by first | omega | (simp; done) | (simp; omega)); have c01s := h1.cell (p := ⟨w.heap.size, 1, none⟩) (by first | omega | (simp; done) | (simp; omega)); have f01s := h1.frozen (p := ⟨w.heap.size, 1, none⟩) (by first | omega | (simp; done) | (simp; omega)); have c10s := h1.cell (p := ⟨w.heap.size + 1, 0, none⟩) (by first | omega | (simp; done) | (simp; omega)); have f10s := h1.frozen (p := ⟨w.heap.size + 1, 0, none⟩) (by first | omega | (simp; done) | (simp; omega)); have c11s := h1.cell (p := ⟨w.heap.size + 1, 1, none⟩) (by first | omega | (simp; done) | (simp; omega)); have f11s := h1.frozen (p := ⟨w.heap.size + 1, 1, none⟩) (by first | omega | (simp; done) | (simp; omega)); have c20s := h1.cell (p := ⟨w.heap.size + 1 + 1, 0, none⟩) (by first | omega | (simp; done) | (simp; omega)); have f20s := h1.frozen (p := ⟨w.heap.size + 1 + 1, 0, none⟩) (by first | omega | (simp; done) | (simp; omega)); have c21s := h1.cell (p := ⟨w.heap.size + 1 + 1, 1, none⟩) (by first | omega | (simp; done) | (simp; omega)); have f21s := h1.frozen (p := ⟨w.heap.size + 1 + 1, 1, none⟩) (by first | omega | (simp; done) | (simp; omega)); simp [go_sem] at c00s f00s c01s f01s c10s f10s c11s f11s c20s f20s c21s f21s; have hbs' : Below w.heap.size w w1 := below_step (by repeat (first | exact Below.refl _ _ | assumption | refine below_drewN ?_ _ | refine Below.drew ?_ | refine Below.alloc ?_ (by first | omega | (simp; done) | (simp; omega)) _ | refine Below.setCell ?_ (by first | (simp; done) | (simp; omega)) _)) h1) | (go_at_call 26; (with_reducible refine (rec.out _ ?hx).mono ?_); (case hx => exact hbs'); rintro e w2 ⟨v2, rfl, hv2, h2⟩; obtain ⟨b', p', n', c', rfl⟩ := hv2.form; have hzt : w.heap.size + 1 + 1 < w2.heap.size := (by have := h2.size; (try simp at this); omega); have c00t := h2.cell (p := ⟨w.heap.size, 0, none⟩) (by first | omega | (simp; done) | (simp; omega)); have f00t := h2.frozen (p := ⟨w.heap.size, 0, none⟩) (by first | omega | (simp; done) | (simp; omega)); have c01t := h2.cell (p := ⟨w.heap.size, 1, none⟩) (by first | omega | (simp; done) | (simp; omega)); have f01t := h2.frozen (p := ⟨w.heap.size, 1, none⟩) (by first | omega | (simp; done) | (simp; omega)); have c10t := h2.cell (p := ⟨w.heap.size + 1, 0, none⟩) (by first | omega | (simp; done) | (simp; omega)); have f10t := h2.frozen (p := ⟨w.heap.size + 1, 0, none⟩) (by first | omega | (simp; done) | (simp; omega)); have c11t := h2.cell (p := ⟨w.heap.size + 1, 1, none⟩) (by first | omega | (simp; done) | (simp; omega)); have f11t := h2.frozen (p := ⟨w.heap.size + 1, 1, none⟩) (by first | omega | (simp; done) | (simp; omega)); have c20t := h2.cell (p := ⟨w.heap.size + 1 + 1, 0, none⟩) (by first | omega | (simp; done) | (simp; omega)); have f20t := h2.frozen (p := ⟨w.heap.size + 1 + 1, 0, none⟩) (by first | omega | (simp; done) | (simp; omega)); have c21t := h2.cell (p := ⟨w.heap.size + 1 + 1, 1, none⟩) (by first | omega | (simp; done) | (simp; omega)); have f21t := h2.frozen (p := ⟨w.heap.size + 1 + 1, 1, none⟩) (by first | omega | (simp; done) | (simp; omega)); simp [go_sem, c00s, c01s, c10s, c11s, c20s, c21s, f20s, f21s] at c00t f00t c01t f01t c10t f10t c11t f11t c20t f20t c21t f21t; have hbt' : Below w.heap.size w w2 := below_step (by repeat (first | exact Below.refl _ _ | assumption | refine below_drewN ?_ _ | refine Below.drew ?_ | refine Below.alloc ?_ (by first | omega | (simp; done) | (simp; omega)) _ | refine Below.setCell ?_ (by first | (simp; done) | (simp; omega)) _)) h2; have hv' := Lib.hid (hv2.boxed c20t (.bool b') (.slice p' n' c')); clear hv2))
    exact bodyPost_ret (v := .agg #[.bool b', .slice p' n' c']) (by simp [results, Try.results26, go_sem, c20t, c21t]) rfl ⟨_, rfl, hv'.out, (by repeat (first | exact Below.refl _ _ | assumption | refine below_drewN ?_ _ | refine Below.drew ?_ | refine Below.alloc ?_ (by first | omega | (simp; done) | (simp; omega)) _ | refine Below.setCell ?_ (by first | (simp; done) | (simp; omega)) _))⟩

/-- v reads as a number whose digits need not be canonical, not too many of them -/
def DigR (w : World) (v : Value) (z : Int) : Prop :=
  ∃ (b : Bool) (s : Value) (ds : List Int), v = .agg #[.bool b, s] ∧ SlR w s ds ∧ (∀ i, 0 ≤ ds.getD i 0 ∧ ds.getD i 0 ≤ 65535) ∧ ds.length ≤ 1000 ∧ z = if b then -val ds else val ds
theorem DigR.later {w w' : World} {v : Value} {z : Int} {B : Nat} (h : DigR w v z) (hb : Below B w w') (hB : w.heap.size ≤ B) : DigR w' v z := by
  obtain ⟨b, s, ds, h1, h2, h3⟩ := h
  exact ⟨b, s, ds, h1, h2.later hb hB, h3⟩
theorem NumR.dig {w : World} {v : Value} {z : Int} (h : NumR w v z) (hz : (z.natAbs : Int) < BIG) : DigR w v z := by
  obtain ⟨b, s, ds, h1, h2, h3, h4, _, rfl⟩ := h
  have va := val_nonneg ds fun i => (h3 i).1
  exact ⟨b, s, ds, h1, h2, h3, by have := len_le ds h3 h4 (by split at hz <;> omega); omega, rfl⟩

/-- Sum: the sum of any two numbers, canonical or not -/
theorem refSum_dig (u v : Value) (y z : Int) (w : World) (hu : DigR w u y) (hv : DigR w v z) :
    Calls Try.prog 26 #[u, v] w (NumE w (y + z)) := by
  obtain ⟨ba, sa, da, rfl, ha, dga, ca, rfl⟩ := hu
  obtain ⟨bb, sb, db, rfl, hb, dgb, cb, rfl⟩ := hv
  obtain ⟨p, n, c, rfl⟩ := ha.form
  obtain ⟨q, m, d, rfl⟩ := hb.form
  have hn : n ≤ 1000 := by rw [← ha.len.1]; omega
  have hm : m ≤ 1000 := by rw [← hb.len.1]; omega
  cases ba <;> cases bb
  · have := t_sum false p q n m c d da db w ha hb hn hm ha.len.1 hb.len.1 dga dgb
    simpa using this
  · by_cases h : val db ≤ val da
    · have := sum_ft p q n m c d da db w ha hb hn hm ha.len.1 hb.len.1 dga dgb h
      simpa [Int.sub_eq_add_neg] using this
    · refine swap_core false true rfl p q n m c d da db _ w ha hb hn hm ha.len.1 hb.len.1 dga dgb (by omega) fun wx hx => ?_
      have := sum_tf q p m n d c db da wx (hb.later hx (Nat.le_refl _)) (ha.later hx (Nat.le_refl _)) hm hn hb.len.1 ha.len.1 dgb dga (by omega)
      simpa [Int.sub_eq_add_neg, Int.neg_add, Int.add_comm] using this
  · by_cases h : val db ≤ val da
    · have := sum_tf p q n m c d da db w ha hb hn hm ha.len.1 hb.len.1 dga dgb h
      simpa [Int.sub_eq_add_neg, Int.neg_add] using this
    · refine swap_core true false rfl p q n m c d da db _ w ha hb hn hm ha.len.1 hb.len.1 dga dgb (by omega) fun wx hx => ?_
      have := sum_ft q p m n d c db da wx (hb.later hx (Nat.le_refl _)) (ha.later hx (Nat.le_refl _)) hm hn hb.len.1 ha.len.1 dgb dga (by omega)
      simpa [Int.sub_eq_add_neg, Int.add_comm] using this
  · have := t_sum true p q n m c d da db w ha hb hn hm ha.len.1 hb.len.1 dga dgb
    simpa [Int.neg_add] using this

theorem refSum_any (u v : Value) (y z : Int) (w : World) (hu : NumR w u y) (hv : NumR w v z) (hy : (y.natAbs : Int) < BIG) (hz : (z.natAbs : Int) < BIG) :
    Calls Try.prog 26 #[u, v] w (NumE w (y + z)) := refSum_dig u v y z w (hu.dig hy) (hv.dig hz)
end Go.Proofs.Ytlfchlholabijaa
