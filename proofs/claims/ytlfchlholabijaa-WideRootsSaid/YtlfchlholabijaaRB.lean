/- The document's numbers: From, Of, Minus. -/
import Derived.Test.YtlfchlholabijaaRA
namespace Go.Proofs.Ytlfchlholabijaa
set_option linter.unusedVariables false
set_option maxRecDepth 2000
open Go.RowKit
attribute [local go_sem] setCell_twice setCell_pair

theorem and16 (z : Int) (h0 : 0 ≤ z) (h1 : z < 18446744073709551616) : bits .and .u64 z 65535 = z % 65536 := by go_bits2

theorem SlR.form {w : World} {s : Value} {ds : List Int} (h : SlR w s ds) : ∃ p n c, s = .slice p n c := by
  rcases h with ⟨rfl, rfl⟩ | ⟨blk, n, cap, rfl, _⟩
  · exact ⟨_, _, _, rfl⟩
  · exact ⟨_, _, _, rfl⟩
theorem NumR.form {w : World} {v : Value} {z : Int} (h : NumR w v z) : ∃ b p n c, v = .agg #[.bool b, .slice p n c] := by
  obtain ⟨b, s, ds, rfl, hs, _⟩ := h
  obtain ⟨p, n, c, rfl⟩ := hs.form
  exact ⟨_, _, _, _, rfl⟩
/-- a number of the document's in a box: a store into a box of another number leaves the digits as they are -/
theorem SlR.boxed {w : World} {s : Value} {ds : List Int} {t : Nat} {b : Bool} (h : SlR w s ds) (ht : w.cell? ⟨t, 0, none⟩ = some (.bool b)) (x y : Value) : SlR ((w.setCell ⟨t, 0, none⟩ x).setCell ⟨t, 1, none⟩ y) s ds := by
  rcases h with h | ⟨blk, n, cap, h1, h2, h3, h4, h5, h6⟩
  · exact .inl h
  · refine .inr ⟨blk, n, cap, h1, h2, h3, h4, by simpa using h5, fun i hi => ?_⟩
    have hne : t ≠ blk := by
      rintro rfl
      have := h6 0 (by omega)
      rw [ht] at this
      cases this
    rw [World.cell?_setCell_other _ _ _ _ (by simp), World.cell?_setCell_other _ _ _ _ (by simp)]
    exact h6 i hi
theorem NumR.boxed {w : World} {v : Value} {z : Int} {t : Nat} {b : Bool} (h : NumR w v z) (ht : w.cell? ⟨t, 0, none⟩ = some (.bool b)) (x y : Value) : NumR ((w.setCell ⟨t, 0, none⟩ x).setCell ⟨t, 1, none⟩ y) v z := by
  obtain ⟨b', s, ds, h1, h2, h3⟩ := h
  exact ⟨b', s, ds, h1, h2.boxed ht x y, h3⟩

/-- what a function of the document's tells: the number z -/
def NumE (w : World) (z : Int) (e : Ending) (w' : World) : Prop := ∃ v, e = .returned v ∧ NumR w' v z ∧ Below w.heap.size w w'

theorem from_core (x a b c d : Int) (h0 : 0 ≤ x) (h1 : x ≤ 18446744073709551615) (w : World)
    (ea : bits .and .u64 x 65535 = a) (eb : bits .and .u64 (x / 65536) 65535 = b) (ec : bits .and .u64 (x / 4294967296) 65535 = c) (ed : x / 281474976710656 = d)
    (a0 : 0 ≤ a) (a1 : a ≤ 65535) (b0 : 0 ≤ b) (b1 : b ≤ 65535) (c0 : 0 ≤ c) (c1 : c ≤ 65535) (d0 : 0 ≤ d) (d1 : d ≤ 65535) :
    Calls Try.prog 20 #[.int .u64 x] w (NumE w (val [a, b, c, d])) := by
  go_enter Try.func20, Try.ntmps20
  go_wp2_with fail
  have sl : SlR ((w.alloc (.cells #[.bool false, .slice none 0 0] 29)).alloc (.cells #[.int .i64 a, .int .i64 b, .int .i64 c, .int .i64 d] 3)) (.slice (some ⟨w.heap.size + 1, 0, none⟩) 4 4) [a, b, c, d] := by
    refine .inr ⟨_, 4, 4, rfl, rfl, by omega, by omega, by simp, fun i hi => ?_⟩
    obtain rfl | rfl | rfl | rfl : i = 0 ∨ i = 1 ∨ i = 2 ∨ i = 3 := by omega
    all_goals simp [go_sem]
  have dg : ∀ i, 0 ≤ ([a, b, c, d] : List Int).getD i 0 ∧ ([a, b, c, d] : List Int).getD i 0 ≤ 65535 := by
    intro i
    match i with
    | 0 => exact ⟨a0, a1⟩
    | 1 => exact ⟨b0, b1⟩
    | 2 => exact ⟨c0, c1⟩
    | 3 => exact ⟨d0, d1⟩
    | i + 4 => simp
  refine (trim_num false _ _ _ sl dg).mono ?_
  rintro e w1 ⟨v, rfl, hv, hb⟩
  clear sl dg
  obtain ⟨b', p, n, cc, rfl⟩ := hv.form
  have hz : w.heap.size < w1.heap.size := (by have := hb.size; (try simp at this); omega); have c00 := hb.cell (p := ⟨w.heap.size, 0, none⟩) (by first | omega | (simp; done) | (simp; omega)); have f00 := hb.frozen (p := ⟨w.heap.size, 0, none⟩) (by first | omega | (simp; done) | (simp; omega)); have c01 := hb.cell (p := ⟨w.heap.size, 1, none⟩) (by first | omega | (simp; done) | (simp; omega)); have f01 := hb.frozen (p := ⟨w.heap.size, 1, none⟩) (by first | omega | (simp; done) | (simp; omega)); simp [go_sem] at c00 f00 c01 f01; have hb' : Below w.heap.size w w1 := below_step (by repeat (first | exact Below.refl _ _ | assumption | refine below_drewN ?_ _ | refine Below.drew ?_ | refine Below.alloc ?_ (by first | omega | (simp; done) | (simp; omega)) _ | refine Below.setCell ?_ (by first | (simp; done) | (simp; omega)) _)) hb
  have hv' := Lib.hid (hv.boxed c00 (.bool b') (.slice p n cc))
  clear hv
  go_wp2
  exact bodyPost_ret (v := .agg #[.bool b', .slice p n cc]) (by simp [results, Try.results20, go_sem, c00, c01]) rfl ⟨_, rfl, hv'.out, (by repeat (first | exact Below.refl _ _ | assumption | refine below_drewN ?_ _ | refine Below.drew ?_ | refine Below.alloc ?_ (by first | omega | (simp; done) | (simp; omega)) _ | refine Below.setCell ?_ (by first | (simp; done) | (simp; omega)) _))⟩

theorem from_any (x : Int) (h0 : 0 ≤ x) (h1 : x ≤ 18446744073709551615) (w : World) : Calls Try.prog 20 #[.int .u64 x] w (NumE w x) := by
  have h := from_core x (x % 65536) (x / 65536 % 65536) (x / 4294967296 % 65536) (x / 281474976710656) h0 h1 w (and16 _ h0 (by omega)) (and16 _ (by omega) (by omega)) (and16 _ (by omega) (by omega)) rfl
    (by omega) (by omega) (by omega) (by omega) (by omega) (by omega) (by omega) (by omega)
  rwa [show val [x % 65536, x / 65536 % 65536, x / 4294967296 % 65536, x / 281474976710656] = x by simp only [val]; omega] at h

theorem minus_core (b : Bool) (p : Option Addr) (n c : Nat) (ds : List Int) (z : Int) (w : World) (hz : Hid ((if !b then -val ds else val ds) = z)) (h : SlR w (.slice p n c) ds) (hd : ∀ i, 0 ≤ ds.getD i 0 ∧ ds.getD i 0 ≤ 65535) :
    Calls Try.prog 31 #[.agg #[.bool b, .slice p n c]] w (NumE w z) := by
  have H := Lib.hid h; clear h
  have HD := Lib.hid hd; clear hd
  go_enter Try.func31, Try.ntmps31
  go_wp2_with fail
  have bl : Below w.heap.size w ((w.alloc (.cells #[.bool b, .slice p n c] 29)).alloc (.cells #[.bool false, .slice none 0 0] 29)) := (by repeat (first | exact Below.refl _ _ | assumption | refine below_drewN ?_ _ | refine Below.drew ?_ | refine Below.alloc ?_ (by first | omega | (simp; done) | (simp; omega)) _ | refine Below.setCell ?_ (by first | (simp; done) | (simp; omega)) _))
  have tr := trim_num (!b) _ _ _ (H.out.later bl (Nat.le_refl _)) HD.out
  rw [hz.out] at tr
  refine tr.mono ?_
  clear tr
  rintro e w1 ⟨v, rfl, hv, hb⟩
  obtain ⟨b', p', n', c', rfl⟩ := hv.form
  have hz : w.heap.size + 1 < w1.heap.size := (by have := hb.size; (try simp at this); omega); have c00 := hb.cell (p := ⟨w.heap.size, 0, none⟩) (by first | omega | (simp; done) | (simp; omega)); have f00 := hb.frozen (p := ⟨w.heap.size, 0, none⟩) (by first | omega | (simp; done) | (simp; omega)); have c01 := hb.cell (p := ⟨w.heap.size, 1, none⟩) (by first | omega | (simp; done) | (simp; omega)); have f01 := hb.frozen (p := ⟨w.heap.size, 1, none⟩) (by first | omega | (simp; done) | (simp; omega)); have c10 := hb.cell (p := ⟨w.heap.size + 1, 0, none⟩) (by first | omega | (simp; done) | (simp; omega)); have f10 := hb.frozen (p := ⟨w.heap.size + 1, 0, none⟩) (by first | omega | (simp; done) | (simp; omega)); have c11 := hb.cell (p := ⟨w.heap.size + 1, 1, none⟩) (by first | omega | (simp; done) | (simp; omega)); have f11 := hb.frozen (p := ⟨w.heap.size + 1, 1, none⟩) (by first | omega | (simp; done) | (simp; omega)); simp [go_sem] at c00 f00 c01 f01 c10 f10 c11 f11; have hb' : Below w.heap.size w w1 := below_step (by repeat (first | exact Below.refl _ _ | assumption | refine below_drewN ?_ _ | refine Below.drew ?_ | refine Below.alloc ?_ (by first | omega | (simp; done) | (simp; omega)) _ | refine Below.setCell ?_ (by first | (simp; done) | (simp; omega)) _)) hb
  have hv' := Lib.hid (hv.boxed c10 (.bool b') (.slice p' n' c'))
  clear hv bl
  go_wp2
  exact bodyPost_ret (v := .agg #[.bool b', .slice p' n' c']) (by simp [results, Try.results31, go_sem, c10, c11]) rfl ⟨_, rfl, hv'.out, (by repeat (first | exact Below.refl _ _ | assumption | refine below_drewN ?_ _ | refine Below.drew ?_ | refine Below.alloc ?_ (by first | omega | (simp; done) | (simp; omega)) _ | refine Below.setCell ?_ (by first | (simp; done) | (simp; omega)) _))⟩

/-- Minus: 0 less a number -/
theorem minus_any (v : Value) (z : Int) (w : World) (h : NumR w v z) : Calls Try.prog 31 #[v] w (NumE w (-z)) := by
  obtain ⟨b, s, ds, rfl, hs, hd, _, _, rfl⟩ := h
  obtain ⟨p, n, c, rfl⟩ := hs.form
  exact minus_core b p n c ds _ w (by cases b <;> simp [Hid]) hs hd
end Go.Proofs.Ytlfchlholabijaa
