/- umbralaw03.VecLong: the walk. -/
import Derived.Test.YtalclbngpimajaaVN
import Derived.Test.YtalclbngpimajaaVI
import Derived.Test.YtalclbngpimajaaWN
import Derived.Deep.RegionHeld3
import Derived.Deep.DeepCutAuto
import Derived.BigQuiet
import Derived.Deep.QuietTactic
namespace Go.Proofs.Ytalclbngpimajaa
set_option linter.unusedVariables false
set_option maxRecDepth 2000
set_option linter.unusedSimpArgs false
open Go.RowKit
attribute [local go_sem] setCell_twice setCell_pair

/-- a block of a wide number that is 0, and may be written -/
structure TwoAt (b : Nat) (W : World) : Prop where
  lt : b < W.heap.size
  c0 : W.cell? ⟨b, 0, none⟩ = some (.int .i64 0)
  c1 : W.cell? ⟨b, 1, none⟩ = some (.int .u64 0)
  f0 : W.frozen? ⟨b, 0, none⟩ = false
  f1 : W.frozen? ⟨b, 1, none⟩ = false
theorem TwoAt.below {b : Nat} {W W' : World} (h : TwoAt b W) (hb : Below W.heap.size W W') : TwoAt b W' where
  lt := Nat.lt_of_lt_of_le h.lt hb.size
  c0 := by rw [hb.cell (p := ⟨b, 0, none⟩) h.lt]; exact h.c0
  c1 := by rw [hb.cell (p := ⟨b, 1, none⟩) h.lt]; exact h.c1
  f0 := by rw [hb.frozen (p := ⟨b, 0, none⟩) h.lt]; exact h.f0
  f1 := by rw [hb.frozen (p := ⟨b, 1, none⟩) h.lt]; exact h.f1
theorem TwoAt.alloc {b : Nat} {W : World} {o : Obj} (h : TwoAt b W) : TwoAt b (W.alloc o) := h.below ((Below.refl _ _).alloc (Nat.le_refl _) _)
theorem TwoAt.drew {b : Nat} {W : World} (h : TwoAt b W) : TwoAt b W.drew := h.below (Below.refl _ _).drew
theorem TwoAt.newAt {b : Nat} {W : World} {T : TypeId} (h : b = W.heap.size) : TwoAt b (W.alloc (.cells #[.int .i64 0, .int .u64 0] T)) := by
  subst h
  exact ⟨by simp, by simp [go_sem], by simp [go_sem], by simp [go_sem], by simp [go_sem]⟩
/-- four wide numbers in a block -/
structure Wides4 (b : Nat) (h0 l0 h1 l1 h2 l2 h3 l3 : Int) (W : World) : Prop where
  lt : b < W.heap.size
  c0 : W.cell? ⟨b, 0, none⟩ = some (.int .i64 h0)
  c1 : W.cell? ⟨b, 1, none⟩ = some (.int .u64 l0)
  c2 : W.cell? ⟨b, 2, none⟩ = some (.int .i64 h1)
  c3 : W.cell? ⟨b, 3, none⟩ = some (.int .u64 l1)
  c4 : W.cell? ⟨b, 4, none⟩ = some (.int .i64 h2)
  c5 : W.cell? ⟨b, 5, none⟩ = some (.int .u64 l2)
  c6 : W.cell? ⟨b, 6, none⟩ = some (.int .i64 h3)
  c7 : W.cell? ⟨b, 7, none⟩ = some (.int .u64 l3)
theorem two2 {h l : Int} {b : Nat} {W W' : World} (hb : b < W.heap.size) (c0 : W.cell? ⟨b, 0, none⟩ = some (.int .i64 h)) (c1 : W.cell? ⟨b, 1, none⟩ = some (.int .u64 l)) (hB : Below W.heap.size W W') :
    W'.cell? ⟨b, 0, none⟩ = some (.int .i64 h) ∧ W'.cell? ⟨b, 1, none⟩ = some (.int .u64 l) :=
  ⟨(hB.cell (p := ⟨b, 0, none⟩) hb).trans c0, (hB.cell (p := ⟨b, 1, none⟩) hb).trans c1⟩
theorem three3 {x y z : Int} {A : Nat} {W W' : World} (ha : CellsL [(0, x), (1, y), (2, z)] A W) (h : Below W.heap.size W W') :
    W'.cell? ⟨A, 0, none⟩ = some (.int .i64 x) ∧ W'.cell? ⟨A, 1, none⟩ = some (.int .i64 y) ∧ W'.cell? ⟨A, 2, none⟩ = some (.int .i64 z) := (ha.later h).three

set_option maxHeartbeats 4000000 in
theorem Long_a (x y z sx sy sz hx lx hy ly hz lz h1 l1 hs ls hn ln n m c : Int) (w : World) (hm : m ≤ n) (n0 : 0 ≤ n) (hc : c ≤ 0)
    (ax : Hid (∀ w, Calls Try.prog 42 #[.int .i64 x] w fun e w' => e = .returned (.int .i64 sx) ∧ w = w'))
    (ox : Hid (∀ w, Calls Try.prog 41 #[.int .i64 sx] w fun e w' => e = .returned (.agg #[.int .i64 hx, .int .u64 lx]) ∧ Below w.heap.size w w'))
    (ay : Hid (∀ w, Calls Try.prog 42 #[.int .i64 y] w fun e w' => e = .returned (.int .i64 sy) ∧ w = w'))
    (oy : Hid (∀ w, Calls Try.prog 41 #[.int .i64 sy] w fun e w' => e = .returned (.agg #[.int .i64 hy, .int .u64 ly]) ∧ Below w.heap.size w w'))
    (az : Hid (∀ w, Calls Try.prog 42 #[.int .i64 z] w fun e w' => e = .returned (.int .i64 sz) ∧ w = w'))
    (oz : Hid (∀ w, Calls Try.prog 41 #[.int .i64 sz] w fun e w' => e = .returned (.agg #[.int .i64 hz, .int .u64 lz]) ∧ Below w.heap.size w w'))
    (o1 : Hid (∀ w, Calls Try.prog 41 #[.int .i64 1] w fun e w' => e = .returned (.agg #[.int .i64 h1, .int .u64 l1]) ∧ Below w.heap.size w w'))
    (ad : Hid (∀ w b, Wides4 b hx lx hy ly hz lz h1 l1 w → Calls Try.prog 40 #[.slice (some ⟨b, 0, none⟩) 4 4] w fun e w' => e = .returned (.tuple #[.agg #[.int .i64 hs, .int .u64 ls], .bool true]) ∧ Below w.heap.size w w'))
    (on : Hid (∀ w, Calls Try.prog 41 #[.int .i64 n] w fun e w' => e = .returned (.agg #[.int .i64 hn, .int .u64 ln]) ∧ Below w.heap.size w w'))
    (cm : Hid (∀ w, Calls Try.prog 43 #[.agg #[.int .i64 hn, .int .u64 ln], .agg #[.int .i64 hs, .int .u64 ls]] w fun e w' => e = .returned (.int .i64 c) ∧ Below w.heap.size w w'))
    (wk : Hid (∀ w, Calls Try.prog 21 #[] w fun e w' => e = .returned (.bool true) ∧ Below w.heap.size w w'))
    (le : Hid (∀ w, Calls Try.prog 34 #[(.agg #[.int .i64 x, .int .i64 y, .int .i64 z])] w fun e w' => e = .returned (.int .i64 n) ∧ Below w.heap.size w w'))
    (mo : Hid (∀ w, Calls Try.prog 32 #[(.agg #[.int .i64 x, .int .i64 y, .int .i64 z])] w fun e w' => e = .returned (.int .i64 m) ∧ Below w.heap.size w w')) :
    Calls Try.prog 9 #[(.agg #[.int .i64 x, .int .i64 y, .int .i64 z])] w fun e w' => e = .returned (.bool true) ∧ Below w.heap.size w w' := by
  go_enter Try.func9, Try.ntmps9
  go_wp2_with (fail); go_at_call 34; refine (le.out _).mono ?_; rintro e w1 ⟨rfl, hb⟩
  have hB : Below w.heap.size w w1 := below_step (by repeat (first | exact Below.refl _ _ | assumption | refine below_drewN ?_ _ | refine Below.drew ?_ | refine Below.alloc ?_ (by first | omega | (simp; done) | (simp; omega)) _ | refine Below.setCell ?_ (by first | (simp; done) | (simp; omega)) _)) hb
  have hz : w.heap.size < w1.heap.size := (by have := hb.size; (try simp at this); omega)
  have c0a := hb.cell (p := ⟨w.heap.size, 0, none⟩) (by first | omega | (simp; done) | (simp; omega))
  have g0a := hb.frozen (p := ⟨w.heap.size, 0, none⟩) (by first | omega | (simp; done) | (simp; omega))
  have c1a := hb.cell (p := ⟨w.heap.size, 1, none⟩) (by first | omega | (simp; done) | (simp; omega))
  have g1a := hb.frozen (p := ⟨w.heap.size, 1, none⟩) (by first | omega | (simp; done) | (simp; omega))
  have c2a := hb.cell (p := ⟨w.heap.size, 2, none⟩) (by first | omega | (simp; done) | (simp; omega))
  have g2a := hb.frozen (p := ⟨w.heap.size, 2, none⟩) (by first | omega | (simp; done) | (simp; omega))
  simp [go_sem] at c0a g0a c1a g1a c2a g2a
  clear hb g0a g1a g2a
  have q1 := Lib.hid (CellsL.of hz c0a c1a c2a)
  go_wp2_with (fail); go_at_call 32; refine (mo.out _).mono ?_; rintro e W0 ⟨rfl, hb⟩
  have hB0 : Below w.heap.size w W0 := below_step hB hb
  have Ha : Hid (CellsL [(0, x), (1, y), (2, z)] w.heap.size W0) := Lib.hid (q1.out.later hb)
  have hA0 : w.heap.size < W0.heap.size := Ha.out.1
  clear c0a c1a c2a q1 hB hz
  clear hb le mo
  go_upto_region 4 with fail
  go_cut [4, 5] (fun s4 s5 wx => ∃ b, s4 = .pointer (some ⟨b, 0, none⟩) ∧ s5 = .bool true ∧ b < wx.heap.size ∧ wx.cell? ⟨b, 0, none⟩ = some (.int .i64 hs) ∧ wx.cell? ⟨b, 1, none⟩ = some (.int .u64 ls) ∧ Below w.heap.size w wx)
  case first =>
    obtain ⟨A, hA⟩ : ∃ A, A = w.heap.size := ⟨_, rfl⟩
    rw [← hA] at Ha hA0 ⊢
    have hAH := Lib.hid hA
    clear hA
    have hBd : Below W0.heap.size W0 W0.drew := (Below.refl _ _).drew
    go_region_held3 (fun w' => w'.cell? ⟨A, 0, none⟩ = some (.int .i64 x) ∧ w'.cell? ⟨A, 1, none⟩ = some (.int .i64 y) ∧ w'.cell? ⟨A, 2, none⟩ = some (.int .i64 z)) (exact three3 Ha.out (by repeat (first | (with_reducible exact Below.refl _ _) | (with_reducible assumption) | (with_reducible refine Below.drew ?_) | (with_reducible refine Below.alloc ?_ ?_ _) | (with_reducible refine Below.setCell ?_ ?_ _) | (with_reducible exact Nat.le_refl _) | exact Nat.le_succ _ | (simp; done) | (simp; omega) | omega | fail))) (first | (go_at_call 42; (with_reducible refine (ax.out _).mono ?_); rintro e wz ⟨rfl, rfl⟩) | (go_at_call 42; (with_reducible refine (ay.out _).mono ?_); rintro e wz ⟨rfl, rfl⟩) | (go_at_call 42; (with_reducible refine (az.out _).mono ?_); rintro e wz ⟨rfl, rfl⟩) | (go_at_call 41; (with_reducible refine (ox.out _).mono ?_); rintro e w1 ⟨rfl, h1⟩; have bw1 : Below W0.heap.size W0 w1 := below_step (by repeat (first | (with_reducible exact Below.refl _ _) | (with_reducible assumption) | (with_reducible refine Below.drew ?_) | (with_reducible refine Below.alloc ?_ ?_ _) | (with_reducible refine Below.setCell ?_ ?_ _) | (with_reducible exact Nat.le_refl _) | exact Nat.le_succ _ | (simp; done) | (simp; omega) | omega | fail)) h1; have sw1 := bw1.size; have lw1 : A < w1.heap.size := (by omega); (try (have v0 : TwoAt (W0.heap.size) w1 := TwoAt.below (by first | ((repeat (first | (with_reducible assumption) | ((with_reducible refine TwoAt.newAt ?_); (first | (with_reducible rfl) | (simp; done) | fail)) | (with_reducible refine TwoAt.alloc ?_) | (with_reducible refine TwoAt.drew ?_))); done) | fail) h1)); clear h1) | (go_at_call 41; (with_reducible refine (oy.out _).mono ?_); rintro e w2 ⟨rfl, h1⟩; have bw2 : Below W0.heap.size W0 w2 := below_step (by repeat (first | (with_reducible exact Below.refl _ _) | (with_reducible assumption) | (with_reducible refine Below.drew ?_) | (with_reducible refine Below.alloc ?_ ?_ _) | (with_reducible refine Below.setCell ?_ ?_ _) | (with_reducible exact Nat.le_refl _) | exact Nat.le_succ _ | (simp; done) | (simp; omega) | omega | fail)) h1; have sw2 := bw2.size; have lw2 : A < w2.heap.size := (by omega); (try (have v0 : TwoAt (W0.heap.size) w2 := TwoAt.below (by first | ((repeat (first | (with_reducible assumption) | ((with_reducible refine TwoAt.newAt ?_); (first | (with_reducible rfl) | (simp; done) | fail)) | (with_reducible refine TwoAt.alloc ?_) | (with_reducible refine TwoAt.drew ?_))); done) | fail) h1)); (try (have v1 : TwoAt (w1.heap.size) w2 := TwoAt.below (by first | ((repeat (first | (with_reducible assumption) | ((with_reducible refine TwoAt.newAt ?_); (first | (with_reducible rfl) | (simp; done) | fail)) | (with_reducible refine TwoAt.alloc ?_) | (with_reducible refine TwoAt.drew ?_))); done) | fail) h1)); clear h1) | (go_at_call 41; (with_reducible refine (oz.out _).mono ?_); rintro e w3 ⟨rfl, h1⟩; have bw3 : Below W0.heap.size W0 w3 := below_step (by repeat (first | (with_reducible exact Below.refl _ _) | (with_reducible assumption) | (with_reducible refine Below.drew ?_) | (with_reducible refine Below.alloc ?_ ?_ _) | (with_reducible refine Below.setCell ?_ ?_ _) | (with_reducible exact Nat.le_refl _) | exact Nat.le_succ _ | (simp; done) | (simp; omega) | omega | fail)) h1; have sw3 := bw3.size; have lw3 : A < w3.heap.size := (by omega); (try (have v0 : TwoAt (W0.heap.size) w3 := TwoAt.below (by first | ((repeat (first | (with_reducible assumption) | ((with_reducible refine TwoAt.newAt ?_); (first | (with_reducible rfl) | (simp; done) | fail)) | (with_reducible refine TwoAt.alloc ?_) | (with_reducible refine TwoAt.drew ?_))); done) | fail) h1)); (try (have v1 : TwoAt (w1.heap.size) w3 := TwoAt.below (by first | ((repeat (first | (with_reducible assumption) | ((with_reducible refine TwoAt.newAt ?_); (first | (with_reducible rfl) | (simp; done) | fail)) | (with_reducible refine TwoAt.alloc ?_) | (with_reducible refine TwoAt.drew ?_))); done) | fail) h1)); (try (have v2 : TwoAt (w2.heap.size) w3 := TwoAt.below (by first | ((repeat (first | (with_reducible assumption) | ((with_reducible refine TwoAt.newAt ?_); (first | (with_reducible rfl) | (simp; done) | fail)) | (with_reducible refine TwoAt.alloc ?_) | (with_reducible refine TwoAt.drew ?_))); done) | fail) h1)); clear h1) | (go_at_call 41; (with_reducible refine (o1.out _).mono ?_); rintro e w4 ⟨rfl, h1⟩; have bw4 : Below W0.heap.size W0 w4 := below_step (by repeat (first | (with_reducible exact Below.refl _ _) | (with_reducible assumption) | (with_reducible refine Below.drew ?_) | (with_reducible refine Below.alloc ?_ ?_ _) | (with_reducible refine Below.setCell ?_ ?_ _) | (with_reducible exact Nat.le_refl _) | exact Nat.le_succ _ | (simp; done) | (simp; omega) | omega | fail)) h1; have sw4 := bw4.size; have lw4 : A < w4.heap.size := (by omega); (try (have v0 : TwoAt (W0.heap.size) w4 := TwoAt.below (by first | ((repeat (first | (with_reducible assumption) | ((with_reducible refine TwoAt.newAt ?_); (first | (with_reducible rfl) | (simp; done) | fail)) | (with_reducible refine TwoAt.alloc ?_) | (with_reducible refine TwoAt.drew ?_))); done) | fail) h1)); (try (have v1 : TwoAt (w1.heap.size) w4 := TwoAt.below (by first | ((repeat (first | (with_reducible assumption) | ((with_reducible refine TwoAt.newAt ?_); (first | (with_reducible rfl) | (simp; done) | fail)) | (with_reducible refine TwoAt.alloc ?_) | (with_reducible refine TwoAt.drew ?_))); done) | fail) h1)); (try (have v2 : TwoAt (w2.heap.size) w4 := TwoAt.below (by first | ((repeat (first | (with_reducible assumption) | ((with_reducible refine TwoAt.newAt ?_); (first | (with_reducible rfl) | (simp; done) | fail)) | (with_reducible refine TwoAt.alloc ?_) | (with_reducible refine TwoAt.drew ?_))); done) | fail) h1)); (try (have v3 : TwoAt (w3.heap.size) w4 := TwoAt.below (by first | ((repeat (first | (with_reducible assumption) | ((with_reducible refine TwoAt.newAt ?_); (first | (with_reducible rfl) | (simp; done) | fail)) | (with_reducible refine TwoAt.alloc ?_) | (with_reducible refine TwoAt.drew ?_))); done) | fail) h1)); clear h1) | (go_at_call 40; (refine (ad.out _ _ ⟨(by first | (simp; done) | (simp; omega)), (by simp [go_sem]), (by simp [go_sem]), (by simp [go_sem]), (by simp [go_sem]), (by simp [go_sem]), (by simp [go_sem]), (by simp [go_sem]), (by simp [go_sem])⟩).mono ?_); rintro e w5 ⟨rfl, h1⟩; have bw5 : Below W0.heap.size W0 w5 := below_step (by repeat (first | (with_reducible exact Below.refl _ _) | (with_reducible assumption) | (with_reducible refine Below.drew ?_) | (with_reducible refine Below.alloc ?_ ?_ _) | (with_reducible refine Below.setCell ?_ ?_ _) | (with_reducible exact Nat.le_refl _) | exact Nat.le_succ _ | (simp; done) | (simp; omega) | omega | fail)) h1; have sw5 := bw5.size; have lw5 : A < w5.heap.size := (by omega); (try (have t := TwoAt.below (b := W0.heap.size) (by first | ((repeat (first | (with_reducible assumption) | ((with_reducible refine TwoAt.newAt ?_); (first | (with_reducible rfl) | (simp; done) | fail)) | (with_reducible refine TwoAt.alloc ?_) | (with_reducible refine TwoAt.drew ?_))); done) | fail) h1; obtain ⟨tl, t0, t1, t2, t3⟩ := t; have tn := Nat.ne_of_lt tl; have tm := Ne.symm tn)); (try (have t := TwoAt.below (b := w1.heap.size) (by first | ((repeat (first | (with_reducible assumption) | ((with_reducible refine TwoAt.newAt ?_); (first | (with_reducible rfl) | (simp; done) | fail)) | (with_reducible refine TwoAt.alloc ?_) | (with_reducible refine TwoAt.drew ?_))); done) | fail) h1; obtain ⟨tl, t0, t1, t2, t3⟩ := t; have tn := Nat.ne_of_lt tl; have tm := Ne.symm tn)); (try (have t := TwoAt.below (b := w2.heap.size) (by first | ((repeat (first | (with_reducible assumption) | ((with_reducible refine TwoAt.newAt ?_); (first | (with_reducible rfl) | (simp; done) | fail)) | (with_reducible refine TwoAt.alloc ?_) | (with_reducible refine TwoAt.drew ?_))); done) | fail) h1; obtain ⟨tl, t0, t1, t2, t3⟩ := t; have tn := Nat.ne_of_lt tl; have tm := Ne.symm tn)); (try (have t := TwoAt.below (b := w3.heap.size) (by first | ((repeat (first | (with_reducible assumption) | ((with_reducible refine TwoAt.newAt ?_); (first | (with_reducible rfl) | (simp; done) | fail)) | (with_reducible refine TwoAt.alloc ?_) | (with_reducible refine TwoAt.drew ?_))); done) | fail) h1; obtain ⟨tl, t0, t1, t2, t3⟩ := t; have tn := Nat.ne_of_lt tl; have tm := Ne.symm tn)); (try (have t := TwoAt.below (b := w4.heap.size) (by first | ((repeat (first | (with_reducible assumption) | ((with_reducible refine TwoAt.newAt ?_); (first | (with_reducible rfl) | (simp; done) | fail)) | (with_reducible refine TwoAt.alloc ?_) | (with_reducible refine TwoAt.drew ?_))); done) | fail) h1; obtain ⟨tl, t0, t1, t2, t3⟩ := t; have tn := Nat.ne_of_lt tl; have tm := Ne.symm tn)); (try (have t := TwoAt.below (b := w4.heap.size + 1) (by first | ((repeat (first | (with_reducible assumption) | ((with_reducible refine TwoAt.newAt ?_); (first | (with_reducible rfl) | (simp; done) | fail)) | (with_reducible refine TwoAt.alloc ?_) | (with_reducible refine TwoAt.drew ?_))); done) | fail) h1; obtain ⟨tl, t0, t1, t2, t3⟩ := t; have tn := Nat.ne_of_lt tl; have tm := Ne.symm tn)); clear h1))
    all_goals
      have hB6 : Below w.heap.size w w5 := below_step hB0 bw5
      have hS0 := hB0.size
      have hS6 := hB6.size
      clear ax ay az ox oy oz o1 ad on cm wk Ha hBd bw1 bw2 bw3 bw4 bw5
      have hA := hAH.out
      clear hAH
      subst hA
      go_wp2_with fail
      go_meet
      exact ⟨_, rfl, rfl, by first | (simp; done) | (simp; omega), by simp [go_sem, *], by simp [go_sem, *], (by repeat (first | (with_reducible exact Below.refl _ _) | (with_reducible assumption) | (with_reducible refine Below.drew ?_) | (with_reducible refine Below.alloc ?_ ?_ _) | (with_reducible refine Below.setCell ?_ ?_ _) | (with_reducible exact Nat.le_refl _) | exact Nat.le_succ _ | (simp; done) | (simp; omega) | omega | fail))⟩
  case rest =>
    obtain ⟨b, rfl, rfl, hb, c0, c1, hB⟩ := hcut
    have hS := hB.size
    clear ax ay az ox oy oz o1 ad hB0 Ha
    go_wp2_with fail
    have hBd : Below wc.heap.size wc wc.drew := (Below.refl _ _).drew
    have c0d := (hBd.cell (p := ⟨b, 0, none⟩) hb).trans c0
    have c1d := (hBd.cell (p := ⟨b, 1, none⟩) hb).trans c1
    go_region_held3 (fun w' => w'.cell? ⟨b, 0, none⟩ = some (.int .i64 hs) ∧ w'.cell? ⟨b, 1, none⟩ = some (.int .u64 ls)) (exact two2 hb c0 c1 (by repeat (first | (with_reducible exact Below.refl _ _) | (with_reducible assumption) | (with_reducible refine Below.drew ?_) | (with_reducible refine Below.alloc ?_ ?_ _) | (with_reducible refine Below.setCell ?_ ?_ _) | (with_reducible exact Nat.le_refl _) | exact Nat.le_succ _ | (simp; done) | (simp; omega) | omega | fail))) (first | (go_at_call 41; (with_reducible refine (on.out _).mono ?_); rintro e w6 ⟨rfl, g1⟩; have bw6 : Below wc.heap.size wc w6 := below_step (by repeat (first | (with_reducible exact Below.refl _ _) | (with_reducible assumption) | (with_reducible refine Below.drew ?_) | (with_reducible refine Below.alloc ?_ ?_ _) | (with_reducible refine Below.setCell ?_ ?_ _) | (with_reducible exact Nat.le_refl _) | exact Nat.le_succ _ | (simp; done) | (simp; omega) | omega | fail)) g1; clear g1) | (go_at_call 43; (with_reducible refine (cm.out _).mono ?_); rintro e w7 ⟨rfl, g1⟩; have bw7 : Below wc.heap.size wc w7 := below_step (by repeat (first | (with_reducible exact Below.refl _ _) | (with_reducible assumption) | (with_reducible refine Below.drew ?_) | (with_reducible refine Below.alloc ?_ ?_ _) | (with_reducible refine Below.setCell ?_ ?_ _) | (with_reducible exact Nat.le_refl _) | exact Nat.le_succ _ | (simp; done) | (simp; omega) | omega | fail)) g1; clear g1) | (go_at_call 21; (with_reducible refine (wk.out _).mono ?_); rintro e w8 ⟨rfl, g1⟩; have bw8 : Below wc.heap.size wc w8 := below_step (by repeat (first | (with_reducible exact Below.refl _ _) | (with_reducible assumption) | (with_reducible refine Below.drew ?_) | (with_reducible refine Below.alloc ?_ ?_ _) | (with_reducible refine Below.setCell ?_ ?_ _) | (with_reducible exact Nat.le_refl _) | exact Nat.le_succ _ | (simp; done) | (simp; omega) | omega | fail)) g1; clear g1))
    have hB8 : Below w.heap.size w w8 := below_step hB bw8
    go_wp2
    go_ret
    exact ⟨rfl, hB8⟩

set_option maxHeartbeats 4000000 in
theorem Long_b (x y z sx sy sz hx lx hy ly hz lz h1 l1 hs ls hn ln n m c : Int) (w : World) (hm : n < m) (hm2 : 4611686018427387904 ≤ m) (n0 : 0 ≤ n) (hc : c ≤ 0)
    (ax : Hid (∀ w, Calls Try.prog 42 #[.int .i64 x] w fun e w' => e = .returned (.int .i64 sx) ∧ w = w'))
    (ox : Hid (∀ w, Calls Try.prog 41 #[.int .i64 sx] w fun e w' => e = .returned (.agg #[.int .i64 hx, .int .u64 lx]) ∧ Below w.heap.size w w'))
    (ay : Hid (∀ w, Calls Try.prog 42 #[.int .i64 y] w fun e w' => e = .returned (.int .i64 sy) ∧ w = w'))
    (oy : Hid (∀ w, Calls Try.prog 41 #[.int .i64 sy] w fun e w' => e = .returned (.agg #[.int .i64 hy, .int .u64 ly]) ∧ Below w.heap.size w w'))
    (az : Hid (∀ w, Calls Try.prog 42 #[.int .i64 z] w fun e w' => e = .returned (.int .i64 sz) ∧ w = w'))
    (oz : Hid (∀ w, Calls Try.prog 41 #[.int .i64 sz] w fun e w' => e = .returned (.agg #[.int .i64 hz, .int .u64 lz]) ∧ Below w.heap.size w w'))
    (o1 : Hid (∀ w, Calls Try.prog 41 #[.int .i64 1] w fun e w' => e = .returned (.agg #[.int .i64 h1, .int .u64 l1]) ∧ Below w.heap.size w w'))
    (ad : Hid (∀ w b, Wides4 b hx lx hy ly hz lz h1 l1 w → Calls Try.prog 40 #[.slice (some ⟨b, 0, none⟩) 4 4] w fun e w' => e = .returned (.tuple #[.agg #[.int .i64 hs, .int .u64 ls], .bool true]) ∧ Below w.heap.size w w'))
    (on : Hid (∀ w, Calls Try.prog 41 #[.int .i64 n] w fun e w' => e = .returned (.agg #[.int .i64 hn, .int .u64 ln]) ∧ Below w.heap.size w w'))
    (cm : Hid (∀ w, Calls Try.prog 43 #[.agg #[.int .i64 hn, .int .u64 ln], .agg #[.int .i64 hs, .int .u64 ls]] w fun e w' => e = .returned (.int .i64 c) ∧ Below w.heap.size w w'))
    (wk : Hid (∀ w, Calls Try.prog 21 #[] w fun e w' => e = .returned (.bool true) ∧ Below w.heap.size w w'))
    (le : Hid (∀ w, Calls Try.prog 34 #[(.agg #[.int .i64 x, .int .i64 y, .int .i64 z])] w fun e w' => e = .returned (.int .i64 n) ∧ Below w.heap.size w w'))
    (mo : Hid (∀ w, Calls Try.prog 32 #[(.agg #[.int .i64 x, .int .i64 y, .int .i64 z])] w fun e w' => e = .returned (.int .i64 m) ∧ Below w.heap.size w w')) :
    Calls Try.prog 9 #[(.agg #[.int .i64 x, .int .i64 y, .int .i64 z])] w fun e w' => e = .returned (.bool true) ∧ Below w.heap.size w w' := by
  go_enter Try.func9, Try.ntmps9
  go_wp2_with (fail); go_at_call 34; refine (le.out _).mono ?_; rintro e w1 ⟨rfl, hb⟩
  have hB : Below w.heap.size w w1 := below_step (by repeat (first | exact Below.refl _ _ | assumption | refine below_drewN ?_ _ | refine Below.drew ?_ | refine Below.alloc ?_ (by first | omega | (simp; done) | (simp; omega)) _ | refine Below.setCell ?_ (by first | (simp; done) | (simp; omega)) _)) hb
  have hz : w.heap.size < w1.heap.size := (by have := hb.size; (try simp at this); omega)
  have c0a := hb.cell (p := ⟨w.heap.size, 0, none⟩) (by first | omega | (simp; done) | (simp; omega))
  have g0a := hb.frozen (p := ⟨w.heap.size, 0, none⟩) (by first | omega | (simp; done) | (simp; omega))
  have c1a := hb.cell (p := ⟨w.heap.size, 1, none⟩) (by first | omega | (simp; done) | (simp; omega))
  have g1a := hb.frozen (p := ⟨w.heap.size, 1, none⟩) (by first | omega | (simp; done) | (simp; omega))
  have c2a := hb.cell (p := ⟨w.heap.size, 2, none⟩) (by first | omega | (simp; done) | (simp; omega))
  have g2a := hb.frozen (p := ⟨w.heap.size, 2, none⟩) (by first | omega | (simp; done) | (simp; omega))
  simp [go_sem] at c0a g0a c1a g1a c2a g2a
  clear hb g0a g1a g2a
  have q1 := Lib.hid (CellsL.of hz c0a c1a c2a)
  go_wp2_with (fail); go_at_call 32; refine (mo.out _).mono ?_; rintro e w2 ⟨rfl, hb⟩
  have hBq : Below w.heap.size w w2 := below_step hB hb
  have q2 := Lib.hid (q1.out.later hb)
  obtain ⟨d0, d1, d2⟩ := q2.out.three
  clear hb q1 hB hz c0a c1a c2a
  go_wp2_with (fail); go_at_call 32; refine (mo.out _).mono ?_; rintro e W0 ⟨rfl, hb⟩
  have hB0 : Below w.heap.size w W0 := below_step hBq hb
  have Ha : Hid (CellsL [(0, x), (1, y), (2, z)] w.heap.size W0) := Lib.hid (q2.out.later hb)
  have hA0 : w.heap.size < W0.heap.size := Ha.out.1
  clear d0 d1 d2 q2 hBq
  clear hb le mo
  go_upto_region 4 with fail
  go_cut [4, 5] (fun s4 s5 wx => ∃ b, s4 = .pointer (some ⟨b, 0, none⟩) ∧ s5 = .bool true ∧ b < wx.heap.size ∧ wx.cell? ⟨b, 0, none⟩ = some (.int .i64 hs) ∧ wx.cell? ⟨b, 1, none⟩ = some (.int .u64 ls) ∧ Below w.heap.size w wx)
  case first =>
    obtain ⟨A, hA⟩ : ∃ A, A = w.heap.size := ⟨_, rfl⟩
    rw [← hA] at Ha hA0 ⊢
    have hAH := Lib.hid hA
    clear hA
    have hBd : Below W0.heap.size W0 W0.drew := (Below.refl _ _).drew
    go_region_held3 (fun w' => w'.cell? ⟨A, 0, none⟩ = some (.int .i64 x) ∧ w'.cell? ⟨A, 1, none⟩ = some (.int .i64 y) ∧ w'.cell? ⟨A, 2, none⟩ = some (.int .i64 z)) (exact three3 Ha.out (by repeat (first | (with_reducible exact Below.refl _ _) | (with_reducible assumption) | (with_reducible refine Below.drew ?_) | (with_reducible refine Below.alloc ?_ ?_ _) | (with_reducible refine Below.setCell ?_ ?_ _) | (with_reducible exact Nat.le_refl _) | exact Nat.le_succ _ | (simp; done) | (simp; omega) | omega | fail))) (first | (go_at_call 42; (with_reducible refine (ax.out _).mono ?_); rintro e wz ⟨rfl, rfl⟩) | (go_at_call 42; (with_reducible refine (ay.out _).mono ?_); rintro e wz ⟨rfl, rfl⟩) | (go_at_call 42; (with_reducible refine (az.out _).mono ?_); rintro e wz ⟨rfl, rfl⟩) | (go_at_call 41; (with_reducible refine (ox.out _).mono ?_); rintro e w1 ⟨rfl, h1⟩; have bw1 : Below W0.heap.size W0 w1 := below_step (by repeat (first | (with_reducible exact Below.refl _ _) | (with_reducible assumption) | (with_reducible refine Below.drew ?_) | (with_reducible refine Below.alloc ?_ ?_ _) | (with_reducible refine Below.setCell ?_ ?_ _) | (with_reducible exact Nat.le_refl _) | exact Nat.le_succ _ | (simp; done) | (simp; omega) | omega | fail)) h1; have sw1 := bw1.size; have lw1 : A < w1.heap.size := (by omega); (try (have v0 : TwoAt (W0.heap.size) w1 := TwoAt.below (by first | ((repeat (first | (with_reducible assumption) | ((with_reducible refine TwoAt.newAt ?_); (first | (with_reducible rfl) | (simp; done) | fail)) | (with_reducible refine TwoAt.alloc ?_) | (with_reducible refine TwoAt.drew ?_))); done) | fail) h1)); clear h1) | (go_at_call 41; (with_reducible refine (oy.out _).mono ?_); rintro e w2 ⟨rfl, h1⟩; have bw2 : Below W0.heap.size W0 w2 := below_step (by repeat (first | (with_reducible exact Below.refl _ _) | (with_reducible assumption) | (with_reducible refine Below.drew ?_) | (with_reducible refine Below.alloc ?_ ?_ _) | (with_reducible refine Below.setCell ?_ ?_ _) | (with_reducible exact Nat.le_refl _) | exact Nat.le_succ _ | (simp; done) | (simp; omega) | omega | fail)) h1; have sw2 := bw2.size; have lw2 : A < w2.heap.size := (by omega); (try (have v0 : TwoAt (W0.heap.size) w2 := TwoAt.below (by first | ((repeat (first | (with_reducible assumption) | ((with_reducible refine TwoAt.newAt ?_); (first | (with_reducible rfl) | (simp; done) | fail)) | (with_reducible refine TwoAt.alloc ?_) | (with_reducible refine TwoAt.drew ?_))); done) | fail) h1)); (try (have v1 : TwoAt (w1.heap.size) w2 := TwoAt.below (by first | ((repeat (first | (with_reducible assumption) | ((with_reducible refine TwoAt.newAt ?_); (first | (with_reducible rfl) | (simp; done) | fail)) | (with_reducible refine TwoAt.alloc ?_) | (with_reducible refine TwoAt.drew ?_))); done) | fail) h1)); clear h1) | (go_at_call 41; (with_reducible refine (oz.out _).mono ?_); rintro e w3 ⟨rfl, h1⟩; have bw3 : Below W0.heap.size W0 w3 := below_step (by repeat (first | (with_reducible exact Below.refl _ _) | (with_reducible assumption) | (with_reducible refine Below.drew ?_) | (with_reducible refine Below.alloc ?_ ?_ _) | (with_reducible refine Below.setCell ?_ ?_ _) | (with_reducible exact Nat.le_refl _) | exact Nat.le_succ _ | (simp; done) | (simp; omega) | omega | fail)) h1; have sw3 := bw3.size; have lw3 : A < w3.heap.size := (by omega); (try (have v0 : TwoAt (W0.heap.size) w3 := TwoAt.below (by first | ((repeat (first | (with_reducible assumption) | ((with_reducible refine TwoAt.newAt ?_); (first | (with_reducible rfl) | (simp; done) | fail)) | (with_reducible refine TwoAt.alloc ?_) | (with_reducible refine TwoAt.drew ?_))); done) | fail) h1)); (try (have v1 : TwoAt (w1.heap.size) w3 := TwoAt.below (by first | ((repeat (first | (with_reducible assumption) | ((with_reducible refine TwoAt.newAt ?_); (first | (with_reducible rfl) | (simp; done) | fail)) | (with_reducible refine TwoAt.alloc ?_) | (with_reducible refine TwoAt.drew ?_))); done) | fail) h1)); (try (have v2 : TwoAt (w2.heap.size) w3 := TwoAt.below (by first | ((repeat (first | (with_reducible assumption) | ((with_reducible refine TwoAt.newAt ?_); (first | (with_reducible rfl) | (simp; done) | fail)) | (with_reducible refine TwoAt.alloc ?_) | (with_reducible refine TwoAt.drew ?_))); done) | fail) h1)); clear h1) | (go_at_call 41; (with_reducible refine (o1.out _).mono ?_); rintro e w4 ⟨rfl, h1⟩; have bw4 : Below W0.heap.size W0 w4 := below_step (by repeat (first | (with_reducible exact Below.refl _ _) | (with_reducible assumption) | (with_reducible refine Below.drew ?_) | (with_reducible refine Below.alloc ?_ ?_ _) | (with_reducible refine Below.setCell ?_ ?_ _) | (with_reducible exact Nat.le_refl _) | exact Nat.le_succ _ | (simp; done) | (simp; omega) | omega | fail)) h1; have sw4 := bw4.size; have lw4 : A < w4.heap.size := (by omega); (try (have v0 : TwoAt (W0.heap.size) w4 := TwoAt.below (by first | ((repeat (first | (with_reducible assumption) | ((with_reducible refine TwoAt.newAt ?_); (first | (with_reducible rfl) | (simp; done) | fail)) | (with_reducible refine TwoAt.alloc ?_) | (with_reducible refine TwoAt.drew ?_))); done) | fail) h1)); (try (have v1 : TwoAt (w1.heap.size) w4 := TwoAt.below (by first | ((repeat (first | (with_reducible assumption) | ((with_reducible refine TwoAt.newAt ?_); (first | (with_reducible rfl) | (simp; done) | fail)) | (with_reducible refine TwoAt.alloc ?_) | (with_reducible refine TwoAt.drew ?_))); done) | fail) h1)); (try (have v2 : TwoAt (w2.heap.size) w4 := TwoAt.below (by first | ((repeat (first | (with_reducible assumption) | ((with_reducible refine TwoAt.newAt ?_); (first | (with_reducible rfl) | (simp; done) | fail)) | (with_reducible refine TwoAt.alloc ?_) | (with_reducible refine TwoAt.drew ?_))); done) | fail) h1)); (try (have v3 : TwoAt (w3.heap.size) w4 := TwoAt.below (by first | ((repeat (first | (with_reducible assumption) | ((with_reducible refine TwoAt.newAt ?_); (first | (with_reducible rfl) | (simp; done) | fail)) | (with_reducible refine TwoAt.alloc ?_) | (with_reducible refine TwoAt.drew ?_))); done) | fail) h1)); clear h1) | (go_at_call 40; (refine (ad.out _ _ ⟨(by first | (simp; done) | (simp; omega)), (by simp [go_sem]), (by simp [go_sem]), (by simp [go_sem]), (by simp [go_sem]), (by simp [go_sem]), (by simp [go_sem]), (by simp [go_sem]), (by simp [go_sem])⟩).mono ?_); rintro e w5 ⟨rfl, h1⟩; have bw5 : Below W0.heap.size W0 w5 := below_step (by repeat (first | (with_reducible exact Below.refl _ _) | (with_reducible assumption) | (with_reducible refine Below.drew ?_) | (with_reducible refine Below.alloc ?_ ?_ _) | (with_reducible refine Below.setCell ?_ ?_ _) | (with_reducible exact Nat.le_refl _) | exact Nat.le_succ _ | (simp; done) | (simp; omega) | omega | fail)) h1; have sw5 := bw5.size; have lw5 : A < w5.heap.size := (by omega); (try (have t := TwoAt.below (b := W0.heap.size) (by first | ((repeat (first | (with_reducible assumption) | ((with_reducible refine TwoAt.newAt ?_); (first | (with_reducible rfl) | (simp; done) | fail)) | (with_reducible refine TwoAt.alloc ?_) | (with_reducible refine TwoAt.drew ?_))); done) | fail) h1; obtain ⟨tl, t0, t1, t2, t3⟩ := t; have tn := Nat.ne_of_lt tl; have tm := Ne.symm tn)); (try (have t := TwoAt.below (b := w1.heap.size) (by first | ((repeat (first | (with_reducible assumption) | ((with_reducible refine TwoAt.newAt ?_); (first | (with_reducible rfl) | (simp; done) | fail)) | (with_reducible refine TwoAt.alloc ?_) | (with_reducible refine TwoAt.drew ?_))); done) | fail) h1; obtain ⟨tl, t0, t1, t2, t3⟩ := t; have tn := Nat.ne_of_lt tl; have tm := Ne.symm tn)); (try (have t := TwoAt.below (b := w2.heap.size) (by first | ((repeat (first | (with_reducible assumption) | ((with_reducible refine TwoAt.newAt ?_); (first | (with_reducible rfl) | (simp; done) | fail)) | (with_reducible refine TwoAt.alloc ?_) | (with_reducible refine TwoAt.drew ?_))); done) | fail) h1; obtain ⟨tl, t0, t1, t2, t3⟩ := t; have tn := Nat.ne_of_lt tl; have tm := Ne.symm tn)); (try (have t := TwoAt.below (b := w3.heap.size) (by first | ((repeat (first | (with_reducible assumption) | ((with_reducible refine TwoAt.newAt ?_); (first | (with_reducible rfl) | (simp; done) | fail)) | (with_reducible refine TwoAt.alloc ?_) | (with_reducible refine TwoAt.drew ?_))); done) | fail) h1; obtain ⟨tl, t0, t1, t2, t3⟩ := t; have tn := Nat.ne_of_lt tl; have tm := Ne.symm tn)); (try (have t := TwoAt.below (b := w4.heap.size) (by first | ((repeat (first | (with_reducible assumption) | ((with_reducible refine TwoAt.newAt ?_); (first | (with_reducible rfl) | (simp; done) | fail)) | (with_reducible refine TwoAt.alloc ?_) | (with_reducible refine TwoAt.drew ?_))); done) | fail) h1; obtain ⟨tl, t0, t1, t2, t3⟩ := t; have tn := Nat.ne_of_lt tl; have tm := Ne.symm tn)); (try (have t := TwoAt.below (b := w4.heap.size + 1) (by first | ((repeat (first | (with_reducible assumption) | ((with_reducible refine TwoAt.newAt ?_); (first | (with_reducible rfl) | (simp; done) | fail)) | (with_reducible refine TwoAt.alloc ?_) | (with_reducible refine TwoAt.drew ?_))); done) | fail) h1; obtain ⟨tl, t0, t1, t2, t3⟩ := t; have tn := Nat.ne_of_lt tl; have tm := Ne.symm tn)); clear h1))
    all_goals
      have hB6 : Below w.heap.size w w5 := below_step hB0 bw5
      have hS0 := hB0.size
      have hS6 := hB6.size
      clear ax ay az ox oy oz o1 ad on cm wk Ha hBd bw1 bw2 bw3 bw4 bw5
      have hA := hAH.out
      clear hAH
      subst hA
      go_wp2_with fail
      go_meet
      exact ⟨_, rfl, rfl, by first | (simp; done) | (simp; omega), by simp [go_sem, *], by simp [go_sem, *], (by repeat (first | (with_reducible exact Below.refl _ _) | (with_reducible assumption) | (with_reducible refine Below.drew ?_) | (with_reducible refine Below.alloc ?_ ?_ _) | (with_reducible refine Below.setCell ?_ ?_ _) | (with_reducible exact Nat.le_refl _) | exact Nat.le_succ _ | (simp; done) | (simp; omega) | omega | fail))⟩
  case rest =>
    obtain ⟨b, rfl, rfl, hb, c0, c1, hB⟩ := hcut
    have hS := hB.size
    clear ax ay az ox oy oz o1 ad hB0 Ha
    go_wp2_with fail
    have hBd : Below wc.heap.size wc wc.drew := (Below.refl _ _).drew
    have c0d := (hBd.cell (p := ⟨b, 0, none⟩) hb).trans c0
    have c1d := (hBd.cell (p := ⟨b, 1, none⟩) hb).trans c1
    go_region_held3 (fun w' => w'.cell? ⟨b, 0, none⟩ = some (.int .i64 hs) ∧ w'.cell? ⟨b, 1, none⟩ = some (.int .u64 ls)) (exact two2 hb c0 c1 (by repeat (first | (with_reducible exact Below.refl _ _) | (with_reducible assumption) | (with_reducible refine Below.drew ?_) | (with_reducible refine Below.alloc ?_ ?_ _) | (with_reducible refine Below.setCell ?_ ?_ _) | (with_reducible exact Nat.le_refl _) | exact Nat.le_succ _ | (simp; done) | (simp; omega) | omega | fail))) (first | (go_at_call 41; (with_reducible refine (on.out _).mono ?_); rintro e w6 ⟨rfl, g1⟩; have bw6 : Below wc.heap.size wc w6 := below_step (by repeat (first | (with_reducible exact Below.refl _ _) | (with_reducible assumption) | (with_reducible refine Below.drew ?_) | (with_reducible refine Below.alloc ?_ ?_ _) | (with_reducible refine Below.setCell ?_ ?_ _) | (with_reducible exact Nat.le_refl _) | exact Nat.le_succ _ | (simp; done) | (simp; omega) | omega | fail)) g1; clear g1) | (go_at_call 43; (with_reducible refine (cm.out _).mono ?_); rintro e w7 ⟨rfl, g1⟩; have bw7 : Below wc.heap.size wc w7 := below_step (by repeat (first | (with_reducible exact Below.refl _ _) | (with_reducible assumption) | (with_reducible refine Below.drew ?_) | (with_reducible refine Below.alloc ?_ ?_ _) | (with_reducible refine Below.setCell ?_ ?_ _) | (with_reducible exact Nat.le_refl _) | exact Nat.le_succ _ | (simp; done) | (simp; omega) | omega | fail)) g1; clear g1) | (go_at_call 21; (with_reducible refine (wk.out _).mono ?_); rintro e w8 ⟨rfl, g1⟩; have bw8 : Below wc.heap.size wc w8 := below_step (by repeat (first | (with_reducible exact Below.refl _ _) | (with_reducible assumption) | (with_reducible refine Below.drew ?_) | (with_reducible refine Below.alloc ?_ ?_ _) | (with_reducible refine Below.setCell ?_ ?_ _) | (with_reducible exact Nat.le_refl _) | exact Nat.le_succ _ | (simp; done) | (simp; omega) | omega | fail)) g1; clear g1))
    have hB8 : Below w.heap.size w w8 := below_step hB bw8
    go_wp2
    go_ret
    exact ⟨rfl, hB8⟩
end Go.Proofs.Ytalclbngpimajaa
