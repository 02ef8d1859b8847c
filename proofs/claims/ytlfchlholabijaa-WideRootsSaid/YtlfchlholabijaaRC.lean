/- The document's numbers: Of, size. -/
import Derived.Test.YtlfchlholabijaaRB
import Derived.Test.YtlfchlholabijaaWX
import Derived.Deep.RegionHeld3
namespace Go.Proofs.Ytlfchlholabijaa
set_option linter.unusedVariables false
set_option maxRecDepth 2000
open Go.RowKit
attribute [local go_sem] setCell_twice setCell_pair

theorem NumR.neg {w : World} {b : Bool} {s : Value} {m : Int} (h : NumR w (.agg #[.bool b, s]) m) (hm : 1 ≤ m) : NumR w (.agg #[.bool true, s]) (-m) := by
  obtain ⟨b', s', ds, h1, h2, h3, h4, h5, h6⟩ := h
  obtain ⟨rfl, rfl⟩ : b' = b ∧ s' = s := by simpa [eq_comm] using h1
  have hv := val_nonneg ds fun i => (h3 i).1
  have hb : b' = false := by
    cases b' with
    | false => rfl
    | true => simp at h6; omega
  subst hb
  simp at h6
  refine ⟨true, s', ds, rfl, h2, h3, h4, fun he => ?_, by simp [h6]⟩
  subst he
  simp [val] at h6
  omega

theorem of_pos (n : Int) (h0 : 0 ≤ n) (h1 : n ≤ 9223372036854775807) (w : World) : Calls Try.prog 7 #[.int .i64 n] w (NumE w n) := by
  go_enter Try.func7, Try.ntmps7
  go_wp2_with (go_at_call 20; refine (from_any _ (by omega) (by omega) _).mono ?_; rintro e w1 ⟨v, rfl, hv, hb⟩; obtain ⟨b', p, k, cc, rfl⟩ := hv.form; have hz : w.heap.size < w1.heap.size := (by have := hb.size; (try simp at this); omega); have c00 := hb.cell (p := ⟨w.heap.size, 0, none⟩) (by first | omega | (simp; done) | (simp; omega)); have f00 := hb.frozen (p := ⟨w.heap.size, 0, none⟩) (by first | omega | (simp; done) | (simp; omega)); have c01 := hb.cell (p := ⟨w.heap.size, 1, none⟩) (by first | omega | (simp; done) | (simp; omega)); have f01 := hb.frozen (p := ⟨w.heap.size, 1, none⟩) (by first | omega | (simp; done) | (simp; omega)); simp [go_sem] at c00 f00 c01 f01; have hb' : Below w.heap.size w w1 := below_step (by repeat (first | exact Below.refl _ _ | assumption | refine below_drewN ?_ _ | refine Below.drew ?_ | refine Below.alloc ?_ (by first | omega | (simp; done) | (simp; omega)) _ | refine Below.setCell ?_ (by first | (simp; done) | (simp; omega)) _)) hb; have hv' := Lib.hid (hv.boxed c00 (.bool b') (.slice p k cc)); clear hv)
  exact bodyPost_ret (v := .agg #[.bool b', .slice p k cc]) (by simp [results, Try.results7, go_sem, c00, c01]) rfl ⟨_, rfl, hv'.out, (by repeat (first | exact Below.refl _ _ | assumption | refine below_drewN ?_ _ | refine Below.drew ?_ | refine Below.alloc ?_ (by first | omega | (simp; done) | (simp; omega)) _ | refine Below.setCell ?_ (by first | (simp; done) | (simp; omega)) _))⟩

theorem field1 (b : Bool) (p : Option Addr) (k c : Nat) (w : World) : (Instr.field 29 (.agg #[.bool b, .slice p k c]) 1).run Try.prog w = .ok (.slice p k c) w := by kernel_rfl

theorem of_neg (n m : Int) (h0 : n < 0) (h1 : -9223372036854775808 ≤ n) (hm : Hid (m = -n)) (w : World) : Calls Try.prog 7 #[.int .i64 n] w (NumE w n) := by
  have hmm : -(n + 1) + 1 = m := by rw [hm.out]; omega
  have fl := field1
  have m0 : 1 ≤ m := by rw [hm.out]; omega
  have m1 : m ≤ 9223372036854775808 := by rw [hm.out]; omega
  go_enter Try.func7, Try.ntmps7
  go_wp2_with (go_at_call 20; refine (from_any _ (by omega) (by omega) _).mono ?_; rintro e w1 ⟨v, rfl, hv, hb⟩; obtain ⟨b', p, k, cc, rfl⟩ := hv.form; have hz : w.heap.size < w1.heap.size := (by have := hb.size; (try simp at this); omega); have c00 := hb.cell (p := ⟨w.heap.size, 0, none⟩) (by first | omega | (simp; done) | (simp; omega)); have f00 := hb.frozen (p := ⟨w.heap.size, 0, none⟩) (by first | omega | (simp; done) | (simp; omega)); have c01 := hb.cell (p := ⟨w.heap.size, 1, none⟩) (by first | omega | (simp; done) | (simp; omega)); have f01 := hb.frozen (p := ⟨w.heap.size, 1, none⟩) (by first | omega | (simp; done) | (simp; omega)); simp [go_sem] at c00 f00 c01 f01; have hb' : Below w.heap.size w w1 := below_step (by repeat (first | exact Below.refl _ _ | assumption | refine below_drewN ?_ _ | refine Below.drew ?_ | refine Below.alloc ?_ (by first | omega | (simp; done) | (simp; omega)) _ | refine Below.setCell ?_ (by first | (simp; done) | (simp; omega)) _)) hb; have hv' := Lib.hid ((hv.neg m0).boxed c00 (.bool true) (.slice p k cc)); clear hv)
  rw [hm.out, Int.neg_neg] at hv'
  exact bodyPost_ret (v := .agg #[.bool true, .slice p k cc]) (by simp [results, Try.results7, go_sem, c00, c01]) rfl ⟨_, rfl, hv'.out, (by repeat (first | exact Below.refl _ _ | assumption | refine below_drewN ?_ _ | refine Below.drew ?_ | refine Below.alloc ?_ (by first | omega | (simp; done) | (simp; omega)) _ | refine Below.setCell ?_ (by first | (simp; done) | (simp; omega)) _))⟩

theorem refOf_any (n : Int) (h0 : -9223372036854775808 ≤ n) (h1 : n ≤ 9223372036854775807) (w : World) : Calls Try.prog 7 #[.int .i64 n] w (NumE w n) := by
  by_cases h : n < 0
  · exact of_neg n (-n) h h0 rfl w
  · exact of_pos n (by omega) h1 w

/-- the digits f below place n, as a number -/
def V (f : Nat → Int) : Nat → Int
  | 0 => 0
  | n + 1 => V f n + f n * 65536 ^ n
theorem V_shift (f : Nat → Int) (n : Nat) : V f (n + 1) = f 0 + 65536 * V (fun i => f (i + 1)) n := by
  induction n with
  | zero => simp [V]
  | succ n ih =>
    rw [V, ih, V, Int.pow_succ]
    grind
theorem val_V (ds : List Int) (n : Nat) (h : ds.length ≤ n) : val ds = V (fun i => ds.getD i 0) n := by
  induction ds generalizing n with
  | nil =>
    have : ∀ m, V (fun i => ([] : List Int).getD i 0) m = 0 := by
      intro m
      induction m with
      | zero => rfl
      | succ m ih => rw [V, ih]; simp
    rw [this]; rfl
  | cons d l ih =>
    obtain ⟨m, rfl⟩ : ∃ m, n = m + 1 := ⟨n - 1, by simp at h; omega⟩
    rw [V_shift, val, ih m (by simpa using h)]
    simp
theorem V_lt (f : Nat → Int) (n : Nat) (h : ∀ i, 0 ≤ f i ∧ f i ≤ 65535) : 0 ≤ V f n ∧ V f n < 65536 ^ n := by
  induction n with
  | zero => simp [V]
  | succ n ih =>
    have h0 := h n
    have hp : (0 : Int) < 65536 ^ n := Int.pow_pos (by omega)
    have h1 : 0 ≤ f n * 65536 ^ n := Int.mul_nonneg h0.1 (by omega)
    have h2 : f n * 65536 ^ n ≤ 65535 * 65536 ^ n := Int.mul_le_mul_of_nonneg_right h0.2 (by omega)
    rw [V, Int.pow_succ]
    omega
theorem V_same (f g : Nat → Int) (k n : Nat) (hkn : k ≤ n) (h : ∀ j, k ≤ j → j < n → f j = g j) : V f n - V g n = V f k - V g k := by
  induction n with
  | zero =>
    obtain rfl : k = 0 := by omega
    rfl
  | succ n ih =>
    rcases Nat.lt_or_eq_of_le hkn with hk | rfl
    · have := ih (by omega) fun j h1 h2 => h j h1 (by omega)
      rw [V, V, h n (by omega) (by omega)]
      omega
    · rfl
/-- the highest digit that differs decides -/
theorem V_less (f g : Nat → Int) (k n : Nat) (hk : k < n) (hf : ∀ i, 0 ≤ f i ∧ f i ≤ 65535) (hg : ∀ i, 0 ≤ g i ∧ g i ≤ 65535) (h : ∀ j, k + 1 ≤ j → j < n → f j = g j) (hl : f k < g k) : V f n < V g n := by
  have e := V_same f g (k + 1) n hk h
  have a := V_lt f k hf
  have b := V_lt g k hg
  rw [V, V] at e
  have : (f k + 1) * 65536 ^ k ≤ g k * 65536 ^ k := Int.mul_le_mul_of_nonneg_right (by omega) (by omega)
  rw [Int.add_mul] at this
  omega
theorem SlR.len {w : World} {p : Option Addr} {n c : Nat} {ds : List Int} (h : SlR w (.slice p n c) ds) : ds.length = n ∧ n ≤ 1000000 := by
  rcases h with ⟨h1, rfl⟩ | ⟨blk, n', cap, h1, h2, h3, h4, h5, h6⟩
  · cases h1; exact ⟨rfl, by omega⟩
  · cases h1; exact ⟨h2, h4⟩

theorem cmpI_lt {a b : Int} (h : a < b) : cmpI a b = -1 := by unfold cmpI; rw [if_pos h]
theorem cmpI_gt {a b : Int} (h : b < a) : cmpI a b = 1 := by unfold cmpI; rw [if_neg (by omega), if_pos h]
theorem cmpI_eq (a : Int) : cmpI a a = 0 := by unfold cmpI; rw [if_neg (by omega), if_neg (by omega)]

set_option maxHeartbeats 1000000 in
theorem size_core (ba bb : Bool) (p q : Option Addr) (n m c d : Nat) (da db : List Int) (r : Int) (w : World) (ha : SlR w (.slice p n c) da) (hb : SlR w (.slice q m d) db) (hn : n ≤ 1000000) (hm : m ≤ 1000000)
    (hla : da.length = n) (hlb : db.length = m) (dga : ∀ i, 0 ≤ da.getD i 0 ∧ da.getD i 0 ≤ 65535) (dgb : ∀ i, 0 ≤ db.getD i 0 ∧ db.getD i 0 ≤ 65535) (hr : cmpI (val da) (val db) = r) :
    Calls Try.prog 29 #[.agg #[.bool ba, .slice p n c], .agg #[.bool bb, .slice q m d]] w fun e w' => e = .returned (.int .i64 r) ∧ Below w.heap.size w w' := by
  have HA := Lib.hid ha; clear ha
  have HB := Lib.hid hb; clear hb
  have LA := Lib.hid hla; clear hla
  have LB := Lib.hid hlb; clear hlb
  have DA := Lib.hid dga; clear dga
  have DB := Lib.hid dgb; clear dgb
  have HR := Lib.hid hr; clear hr
  obtain ⟨M, hM, hM'⟩ : ∃ M : Nat, M ≤ 1000000 ∧ Hid (M = max n m) := ⟨max n m, by omega, rfl⟩
  go_enter Try.func29, Try.ntmps29
  go_wp2
  all_goals
    go_loopw [5] (fun i wr => ∃ k : Nat, k ≤ M ∧ i = .int .i64 ((k : Int) - 1) ∧ Hid (∀ j, k ≤ j → j < M → da.getD j 0 = db.getD j 0) ∧ Below w.heap.size w wr ∧ w.heap.size + 1 < wr.heap.size ∧
      wr.cell? ⟨w.heap.size, 0, none⟩ = some (.bool ba) ∧ wr.cell? ⟨w.heap.size, 1, none⟩ = some (.slice p n c) ∧ wr.cell? ⟨w.heap.size + 1, 0, none⟩ = some (.bool bb) ∧ wr.cell? ⟨w.heap.size + 1, 1, none⟩ = some (.slice q m d)) (fun i _ => (intOf i + 1).toNat)
    case atStart => exact ⟨M, Nat.le_refl _, by have := hM'.out; congr 1; omega, fun j h1 h2 => by omega, (by repeat (first | exact Below.refl _ _ | assumption | refine below_drewN ?_ _ | refine Below.drew ?_ | refine Below.alloc ?_ (by first | omega | (simp; done) | (simp; omega)) _ | refine Below.setCell ?_ (by first | (simp; done) | (simp; omega)) _)), by simp, by simp [go_sem], by simp [go_sem], by simp [go_sem], by simp [go_sem]⟩
    case round =>
      obtain ⟨k, hk, rfl, hs, hB, hz, c0, c1, c2, c3⟩ := hrel
      by_cases h0 : k = 0
      · subst h0
        have e : val da = val db := by
          rw [val_V da M (by rw [LA.out, hM'.out]; omega), val_V db M (by rw [LB.out, hM'.out]; omega)]
          have := V_same (fun i => da.getD i 0) (fun i => db.getD i 0) 0 M (Nat.zero_le _) fun j _ h2 => hs.out j (Nat.zero_le _) h2
          simp only [V] at this; omega
        go_wp2
        go_ret
        exact ⟨ret_int (by rw [← HR.out, e, cmpI_eq]), hB⟩
      · obtain ⟨j, rfl⟩ : ∃ j, k = j + 1 := ⟨k - 1, by omega⟩
        have g1 := fun wx (hx : Below w.heap.size w wx) => digit_any ba (.slice p n c) da j (by omega) wx (HA.out.later hx (Nat.le_refl _))
        have g2 := fun wx (hx : Below w.heap.size w wx) => digit_any bb (.slice q m d) db j (by omega) wx (HB.out.later hx (Nat.le_refl _))
        have L1 := V_less (fun i => da.getD i 0) (fun i => db.getD i 0) j M (by omega) DA.out DB.out hs.out
        have L2 := V_less (fun i => db.getD i 0) (fun i => da.getD i 0) j M (by omega) DB.out DA.out fun i h1 h2 => (hs.out i h1 h2).symm
        rw [← val_V da M (by rw [LA.out, hM'.out]; omega), ← val_V db M (by rw [LB.out, hM'.out]; omega)] at L1 L2
        have nx : da.getD j 0 = db.getD j 0 → ∀ i, j ≤ i → i < M → da.getD i 0 = db.getD i 0 := fun e i h1 h2 => by
          rcases Nat.eq_or_lt_of_le h1 with h | h
          · exact h ▸ e
          · exact hs.out i h h2
        clear hs
        generalize da.getD j 0 = x at *
        generalize db.getD j 0 = y at *
        have NX := Lib.hid nx
        have G1 := Lib.hid g1
        have G2 := Lib.hid g2
        have M1 := Lib.hid L1
        have M2 := Lib.hid L2
        clear g1 g2 nx L1 L2
        rw [show ((j + 1 : Nat) : Int) - 1 = (j : Int) by omega]
        go_wp2
        go_region_held3 (fun w' => w'.cell? ⟨w.heap.size, 0, none⟩ = some (.bool ba) ∧ w'.cell? ⟨w.heap.size, 1, none⟩ = some (.slice p n c) ∧ w'.cell? ⟨w.heap.size + 1, 0, none⟩ = some (.bool bb) ∧ w'.cell? ⟨w.heap.size + 1, 1, none⟩ = some (.slice q m d)) (first | go_keep | exact ⟨c00y, c01y, c10y, c11y⟩ | exact ⟨c00x, c01x, c10x, c11x⟩) (first | (go_at_call 18; (with_reducible refine (G1.out _ ?hx).mono ?_); (case hx => exact (by repeat (first | exact Below.refl _ _ | assumption | refine below_drewN ?_ _ | refine Below.drew ?_ | refine Below.alloc ?_ (by first | omega | (simp; done) | (simp; omega)) _ | refine Below.setCell ?_ (by first | (simp; done) | (simp; omega)) _))); rintro e w4 ⟨rfl, hf⟩; have hzx : w.heap.size + 1 < w4.heap.size := (by have := hf.size; (try simp at this); omega); have c00x := hf.cell (p := ⟨w.heap.size, 0, none⟩) (by first | omega | (simp; done) | (simp; omega)); have f00x := hf.frozen (p := ⟨w.heap.size, 0, none⟩) (by first | omega | (simp; done) | (simp; omega)); have c01x := hf.cell (p := ⟨w.heap.size, 1, none⟩) (by first | omega | (simp; done) | (simp; omega)); have f01x := hf.frozen (p := ⟨w.heap.size, 1, none⟩) (by first | omega | (simp; done) | (simp; omega)); have c10x := hf.cell (p := ⟨w.heap.size + 1, 0, none⟩) (by first | omega | (simp; done) | (simp; omega)); have f10x := hf.frozen (p := ⟨w.heap.size + 1, 0, none⟩) (by first | omega | (simp; done) | (simp; omega)); have c11x := hf.cell (p := ⟨w.heap.size + 1, 1, none⟩) (by first | omega | (simp; done) | (simp; omega)); have f11x := hf.frozen (p := ⟨w.heap.size + 1, 1, none⟩) (by first | omega | (simp; done) | (simp; omega)); simp [go_sem, c0, c1, c2, c3] at c00x f00x c01x f01x c10x f10x c11x f11x; have hbx' : Below w.heap.size w w4 := below_step (by repeat (first | exact Below.refl _ _ | assumption | refine below_drewN ?_ _ | refine Below.drew ?_ | refine Below.alloc ?_ (by first | omega | (simp; done) | (simp; omega)) _ | refine Below.setCell ?_ (by first | (simp; done) | (simp; omega)) _)) hf) | (go_at_call 18; (with_reducible refine (G2.out _ ?hx).mono ?_); (case hx => exact (by repeat (first | exact Below.refl _ _ | assumption | refine below_drewN ?_ _ | refine Below.drew ?_ | refine Below.alloc ?_ (by first | omega | (simp; done) | (simp; omega)) _ | refine Below.setCell ?_ (by first | (simp; done) | (simp; omega)) _))); rintro e w5 ⟨rfl, hg⟩; have hzy : w.heap.size + 1 < w5.heap.size := (by have := hg.size; (try simp at this); omega); have c00y := hg.cell (p := ⟨w.heap.size, 0, none⟩) (by first | omega | (simp; done) | (simp; omega)); have f00y := hg.frozen (p := ⟨w.heap.size, 0, none⟩) (by first | omega | (simp; done) | (simp; omega)); have c01y := hg.cell (p := ⟨w.heap.size, 1, none⟩) (by first | omega | (simp; done) | (simp; omega)); have f01y := hg.frozen (p := ⟨w.heap.size, 1, none⟩) (by first | omega | (simp; done) | (simp; omega)); have c10y := hg.cell (p := ⟨w.heap.size + 1, 0, none⟩) (by first | omega | (simp; done) | (simp; omega)); have f10y := hg.frozen (p := ⟨w.heap.size + 1, 0, none⟩) (by first | omega | (simp; done) | (simp; omega)); have c11y := hg.cell (p := ⟨w.heap.size + 1, 1, none⟩) (by first | omega | (simp; done) | (simp; omega)); have f11y := hg.frozen (p := ⟨w.heap.size + 1, 1, none⟩) (by first | omega | (simp; done) | (simp; omega)); simp [go_sem, c00x, c01x, c10x, c11x] at c00y f00y c01y f01y c10y f10y c11y f11y; have hby' : Below w.heap.size w w5 := below_step (by repeat (first | exact Below.refl _ _ | assumption | refine below_drewN ?_ _ | refine Below.drew ?_ | refine Below.alloc ?_ (by first | omega | (simp; done) | (simp; omega)) _ | refine Below.setCell ?_ (by first | (simp; done) | (simp; omega)) _)) hg))
        have hby := hby'
        clear hf hg c00x c01x c10x c11x f00x f01x f10x f11x hzx hbx' f00y f01y f10y f11y G1 G2
        rcases Int.lt_trichotomy x y with hxy | hxy | hxy
        · have e := cmpI_lt (M1.out hxy)
          rw [HR.out] at e
          have E := Lib.hid e
          clear e
          go_wp2
          go_ret
          exact ⟨ret_int E.out.symm, (by repeat (first | exact Below.refl _ _ | assumption | refine below_drewN ?_ _ | refine Below.drew ?_ | refine Below.alloc ?_ (by first | omega | (simp; done) | (simp; omega)) _ | refine Below.setCell ?_ (by first | (simp; done) | (simp; omega)) _))⟩
        · have nx2 := Lib.hid (NX.out hxy)
          subst hxy
          go_wp2
          go_roundw
          case rel => exact ⟨j, by omega, rfl, nx2, (by repeat (first | exact Below.refl _ _ | assumption | refine below_drewN ?_ _ | refine Below.drew ?_ | refine Below.alloc ?_ (by first | omega | (simp; done) | (simp; omega)) _ | refine Below.setCell ?_ (by first | (simp; done) | (simp; omega)) _)), hzy, c00y, c01y, c10y, c11y⟩
          case measure => simp [intOf]
        · have e := cmpI_gt (M2.out hxy)
          rw [HR.out] at e
          have E := Lib.hid e
          clear e
          go_wp2
          go_ret
          exact ⟨ret_int E.out.symm, (by repeat (first | exact Below.refl _ _ | assumption | refine below_drewN ?_ _ | refine Below.drew ?_ | refine Below.alloc ?_ (by first | omega | (simp; done) | (simp; omega)) _ | refine Below.setCell ?_ (by first | (simp; done) | (simp; omega)) _))⟩

/-- size: which of two numbers is nearer to 0 -/
theorem size_any (u v : Value) (y z : Int) (w : World) (hu : NumR w u y) (hv : NumR w v z) :
    Calls Try.prog 29 #[u, v] w fun e w' => e = .returned (.int .i64 (cmpI y.natAbs z.natAbs)) ∧ Below w.heap.size w w' := by
  obtain ⟨ba, sa, da, rfl, ha, dga, _, _, rfl⟩ := hu
  obtain ⟨bb, sb, db, rfl, hb, dgb, _, _, rfl⟩ := hv
  obtain ⟨p, n, c, rfl⟩ := ha.form
  obtain ⟨q, m, d, rfl⟩ := hb.form
  have va := val_nonneg da fun i => (dga i).1
  have vb := val_nonneg db fun i => (dgb i).1
  refine size_core ba bb p q n m c d da db _ w ha hb ha.len.2 hb.len.2 ha.len.1 hb.len.1 dga dgb ?_
  congr 1 <;> (split <;> omega)
end Go.Proofs.Ytlfchlholabijaa
