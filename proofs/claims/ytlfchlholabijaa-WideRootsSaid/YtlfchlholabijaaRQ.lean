/- The document's numbers: ToWide. -/
import Derived.Test.YtlfchlholabijaaRP
import Derived.Test.YtlfchlholabijaaWAdd
import Derived.Deep.DeepCutAuto
import Derived.LoopTactic
namespace Go.Proofs.Ytlfchlholabijaa
set_option linter.unusedVariables false
set_option maxRecDepth 2000
set_option linter.unusedSimpArgs false
open Go.RowKit
attribute [local go_sem] setCell_twice setCell_pair

/-- a block of a number that is 0, and may be written -/
structure NumAt (b : Nat) (W : World) : Prop where
  lt : b < W.heap.size
  c0 : W.cell? ⟨b, 0, none⟩ = some (.bool false)
  c1 : W.cell? ⟨b, 1, none⟩ = some (.slice none 0 0)
  f0 : W.frozen? ⟨b, 0, none⟩ = false
  f1 : W.frozen? ⟨b, 1, none⟩ = false
theorem NumAt.below {b : Nat} {W W' : World} (h : NumAt b W) (hb : Below W.heap.size W W') : NumAt b W' where
  lt := Nat.lt_of_lt_of_le h.lt hb.size
  c0 := by rw [hb.cell (p := ⟨b, 0, none⟩) h.lt]; exact h.c0
  c1 := by rw [hb.cell (p := ⟨b, 1, none⟩) h.lt]; exact h.c1
  f0 := by rw [hb.frozen (p := ⟨b, 0, none⟩) h.lt]; exact h.f0
  f1 := by rw [hb.frozen (p := ⟨b, 1, none⟩) h.lt]; exact h.f1
theorem NumAt.alloc {b : Nat} {W : World} {o : Obj} (h : NumAt b W) : NumAt b (W.alloc o) := h.below ((Below.refl _ _).alloc (Nat.le_refl _) _)
theorem NumAt.drew {b : Nat} {W : World} (h : NumAt b W) : NumAt b W.drew := h.below (Below.refl _ _).drew
theorem NumAt.newAt {b : Nat} {W : World} {T : TypeId} (h : b = W.heap.size) : NumAt b (W.alloc (.cells #[.bool false, .slice none 0 0] T)) := by
  subst h
  exact ⟨by simp, by simp [go_sem], by simp [go_sem], by simp [go_sem], by simp [go_sem]⟩
theorem numR_alloc {W : World} {v : Value} {z : Int} {o : Obj} (h : NumR W v z) : NumR (W.alloc o) v z := h.later ((Below.refl _ _).alloc (Nat.le_refl _) _) (Nat.le_refl _)
/-- two cells of a block are these, and may be read -/
def Two (b : Nat) (x y : Value) (W : World) : Prop := b < W.heap.size ∧ W.cell? ⟨b, 0, none⟩ = some x ∧ W.cell? ⟨b, 1, none⟩ = some y

theorem or16 (P d : Int) (p0 : 0 ≤ P) (p1 : P ≤ 281474976710655) (d0 : 0 ≤ d) (d1 : d ≤ 65535) : bits .or .u64 (IntKind.u64.wrap (P * 65536)) d = P * 65536 + d := by
  rw [IntKind.wrap_u64, show P * 65536 % 18446744073709551616 = P * 65536 by omega]
  obtain ⟨m, hm⟩ := Int.eq_ofNat_of_zero_le p0
  obtain ⟨a, ha⟩ := Int.eq_ofNat_of_zero_le d0
  rw [hm] at p1 ⊢
  rw [ha] at d1 ⊢
  have h1 : a < 2 ^ 16 := by omega
  rw [show (m : Int) * 65536 = ((m * 65536 : Nat) : Int) by omega, bits_or_u64_nat (m * 65536) a (by omega) (by omega)]
  have h := Nat.two_pow_add_eq_or_of_lt h1 m
  rw [show m * 65536 = 2 ^ 16 * m by omega, ← h]
  omega

theorem kept2 {A : Nat} {x y : Value} {W W' : World} (h : Kept [(A, 0, x), (A, 1, y)] W) (hB : Below W.heap.size W W') : W'.cell? ⟨A, 0, none⟩ = some x ∧ W'.cell? ⟨A, 1, none⟩ = some y :=
  ⟨((h.step hB).get A 0 x (by simp)).2.1, ((h.step hB).get A 1 y (by simp)).2.1⟩
set_option maxHeartbeats 4000000 in
theorem ToWide_any (ba : Bool) (p : Option Addr) (n c : Nat) (y : Int) (w : World) (ha : NumR w (.agg #[.bool ba, .slice p n c]) y) (y1 : (y.natAbs : Int) < SMALL) :
    Calls Try.prog 5 #[.agg #[.bool ba, .slice p n c]] w fun e w' => e = .returned (.tuple #[if inW y then (.agg #[.int .i64 (hi (y)), .int .u64 (lo (y))]) else .agg #[.int .i64 0, .int .u64 0], .bool (inW y)]) ∧ Below w.heap.size w w' := by
  obtain ⟨V, hV⟩ : ∃ V, V = (Value.tuple #[if inW y then (.agg #[.int .i64 (hi (y)), .int .u64 (lo (y))]) else .agg #[.int .i64 0, .int .u64 0], .bool (inW y)]) := ⟨_, rfl⟩
  rw [← hV]
  have HV := Lib.hid hV; clear hV
  have HA := Lib.hid ha; clear ha
  have QU := Lib.hid (fun wx v (hx : Below w.heap.size w wx) (hv : NumR wx v 18446744073709551616) => quotient_any _ v y 18446744073709551616 wx (HA.out.later hx (Nat.le_refl _)) hv (by omega) y1 (by unfold SMALL; decide))
  have p64 := Lib.hid power_64
  go_enter Try.func5, Try.ntmps5
  go_wp2_with (fail)
  have hB0 : Below w.heap.size w ((w.alloc (.cells #[.bool ba, .slice p n c] 29)).alloc (.cells #[.int .i64 0, .int .u64 0] 24)) := (by repeat (first | exact Below.refl _ _ | assumption | refine below_drewN ?_ _ | refine Below.drew ?_ | refine Below.alloc ?_ (by first | omega | (simp; done) | (simp; omega)) _ | refine Below.setCell ?_ (by first | (simp; done) | (simp; omega)) _))
  have K0 : Kept [(w.heap.size, 0, .bool ba), (w.heap.size, 1, .slice p n c)] ((w.alloc (.cells #[.bool ba, .slice p n c] 29)).alloc (.cells #[.int .i64 0, .int .u64 0] 24)) := by
    refine .cons ?_ ?_ ?_ (.cons ?_ ?_ ?_ .nil) <;> first | (simp; done) | (simp; omega) | (simp [go_sem]; done)
  have Z0 : w.heap.size + 1 < (((w.alloc (.cells #[.bool ba, .slice p n c] 29)).alloc (.cells #[.int .i64 0, .int .u64 0] 24))).heap.size ∧ (((w.alloc (.cells #[.bool ba, .slice p n c] 29)).alloc (.cells #[.int .i64 0, .int .u64 0] 24))).cell? ⟨w.heap.size + 1, 0, none⟩ = some (.int .i64 0) ∧ (((w.alloc (.cells #[.bool ba, .slice p n c] 29)).alloc (.cells #[.int .i64 0, .int .u64 0] 24))).cell? ⟨w.heap.size + 1, 1, none⟩ = some (.int .u64 0) ∧ (((w.alloc (.cells #[.bool ba, .slice p n c] 29)).alloc (.cells #[.int .i64 0, .int .u64 0] 24))).frozen? ⟨w.heap.size + 1, 0, none⟩ = false ∧ (((w.alloc (.cells #[.bool ba, .slice p n c] 29)).alloc (.cells #[.int .i64 0, .int .u64 0] 24))).frozen? ⟨w.heap.size + 1, 1, none⟩ = false := ⟨by simp, by simp [go_sem], by simp [go_sem], by simp [go_sem], by simp [go_sem]⟩
  generalize ((w.alloc (.cells #[.bool ba, .slice p n c] 29)).alloc (.cells #[.int .i64 0, .int .u64 0] 24)) = W0 at *
  have Z0 := Lib.hid Z0
  have K0 := Lib.hid K0
  have hB0 := Lib.hid hB0
  go_cut [4, 5] (fun s4 s5 wx => ∃ (b c : Nat) (b1 b2 : Bool) (p1 p2 : Option Addr) (n1 c1 n2 c2 : Nat) (q r : Int), s4 = .pointer (some ⟨b, 0, none⟩) ∧ s5 = .pointer (some ⟨c, 0, none⟩) ∧ Two b (.bool b1) (.slice p1 n1 c1) wx ∧ Two c (.bool b2) (.slice p2 n2 c2) wx ∧ NumR wx (.agg #[.bool b1, .slice p1 n1 c1]) q ∧ NumR wx (.agg #[.bool b2, .slice p2 n2 c2]) r ∧ y = 18446744073709551616 * q + r ∧ (0 ≤ r ∧ r < 18446744073709551616) ∧ Below W0.heap.size W0 wx)
  case first =>
    obtain ⟨A, hAe⟩ : ∃ A, A = w.heap.size := ⟨_, rfl⟩
    rw [← hAe] at K0 ⊢
    have hA0 : A < W0.heap.size := (K0.out.get A 0 (.bool ba) (by simp)).1
    have hAH := Lib.hid hAe
    clear hAe
    have x0z := (K0.out.get A 0 (.bool ba) (by simp)).2.1; have x1z := (K0.out.get A 1 (.slice p n c) (by simp)).2.1
    go_region_held3 (fun w' => w'.cell? ⟨A, 0, none⟩ = some (.bool ba) ∧ w'.cell? ⟨A, 1, none⟩ = some (.slice p n c)) (exact kept2 K0.out (by repeat (first | (with_reducible exact Below.refl _ _) | (with_reducible assumption) | (with_reducible refine below_drewN ?_ _) | (with_reducible refine Below.drew ?_) | (with_reducible refine Below.alloc ?_ ?_ _) | (with_reducible refine Below.setCell ?_ ?_ _) | (with_reducible exact Nat.le_refl _) | exact Nat.le_succ _ | (simp; done) | (simp; omega) | omega | fail))) (first | (go_at_call 16; (with_reducible refine (p64.out _).mono ?_); rintro e w5 ⟨v2, rfl, n2, g2⟩; have bw5 : Below W0.heap.size W0 w5 := below_step (by repeat (first | (with_reducible exact Below.refl _ _) | (with_reducible assumption) | (with_reducible refine below_drewN ?_ _) | (with_reducible refine Below.drew ?_) | (with_reducible refine Below.alloc ?_ ?_ _) | (with_reducible refine Below.setCell ?_ ?_ _) | (with_reducible exact Nat.le_refl _) | exact Nat.le_succ _ | (simp; done) | (simp; omega) | omega | fail)) g2; have sw5 := bw5.size; have K5 := Lib.hid (K0.out.step bw5); have l5 : A < w5.heap.size := (by omega); have x0b := (K5.out.get A 0 (.bool ba) (by simp)).2.1; have x1b := (K5.out.get A 1 (.slice p n c) (by simp)).2.1; have N2 := Lib.hid n2; clear n2; (try (have v0 : NumAt (W0.heap.size) w5 := NumAt.below (by first | ((repeat (first | (with_reducible assumption) | ((with_reducible refine NumAt.newAt ?_); (first | (with_reducible rfl) | (simp; done) | fail)) | (with_reducible refine NumAt.alloc ?_) | (with_reducible refine NumAt.drew ?_))); done) | fail) g2; have nev0 := Nat.ne_of_lt v0.lt; have nfv0 := Ne.symm nev0)); (try (have v1 : NumAt (W0.heap.size + 1) w5 := NumAt.below (by first | ((repeat (first | (with_reducible assumption) | ((with_reducible refine NumAt.newAt ?_); (first | (with_reducible rfl) | (simp; done) | fail)) | (with_reducible refine NumAt.alloc ?_) | (with_reducible refine NumAt.drew ?_))); done) | fail) g2; have nev1 := Nat.ne_of_lt v1.lt; have nfv1 := Ne.symm nev1)); clear g2) | (go_at_call 15; (refine (QU.out _ v2 ?hx ?hy).mono ?_); (case hx => exact below_step hB0.out (by repeat (first | (with_reducible exact Below.refl _ _) | (with_reducible assumption) | (with_reducible refine below_drewN ?_ _) | (with_reducible refine Below.drew ?_) | (with_reducible refine Below.alloc ?_ ?_ _) | (with_reducible refine Below.setCell ?_ ?_ _) | (with_reducible exact Nat.le_refl _) | exact Nat.le_succ _ | (simp; done) | (simp; omega) | omega | fail))); (case hy => exact NumR.later (B := w5.heap.size) N2.out (by repeat (first | (with_reducible exact Below.refl _ _) | (with_reducible assumption) | (with_reducible refine below_drewN ?_ _) | (with_reducible refine Below.drew ?_) | (with_reducible refine Below.alloc ?_ ?_ _) | (with_reducible refine Below.setCell ?_ ?_ _) | (with_reducible exact Nat.le_refl _) | exact Nat.le_succ _ | (simp; done) | (simp; omega) | omega | fail)) (Nat.le_refl _)); rintro e w6 ⟨q1, q2, q, r, rfl, m1, m2, eqn, hp, hm, g3⟩; obtain ⟨b1, p1, n1, c1, rfl⟩ := m1.form; obtain ⟨b2, p2, n2, c2, rfl⟩ := m2.form; have bw6 : Below W0.heap.size W0 w6 := below_step (by repeat (first | (with_reducible exact Below.refl _ _) | (with_reducible assumption) | (with_reducible refine below_drewN ?_ _) | (with_reducible refine Below.drew ?_) | (with_reducible refine Below.alloc ?_ ?_ _) | (with_reducible refine Below.setCell ?_ ?_ _) | (with_reducible exact Nat.le_refl _) | exact Nat.le_succ _ | (simp; done) | (simp; omega) | omega | fail)) g3; have sw6 := bw6.size; have K6 := Lib.hid (K0.out.step bw6); have l6 : A < w6.heap.size := (by omega); have x0c := (K6.out.get A 0 (.bool ba) (by simp)).2.1; have x1c := (K6.out.get A 1 (.slice p n c) (by simp)).2.1; have EQ := Lib.hid eqn; have HP := Lib.hid (hp (by omega)); clear eqn hp hm; (try (have t := NumAt.below (b := W0.heap.size) (by first | ((repeat (first | (with_reducible assumption) | ((with_reducible refine NumAt.newAt ?_); (first | (with_reducible rfl) | (simp; done) | fail)) | (with_reducible refine NumAt.alloc ?_) | (with_reducible refine NumAt.drew ?_))); done) | fail) g3; obtain ⟨tl, t0, t1, t2, t3⟩ := t; have tn := Nat.ne_of_lt tl; have tm := Ne.symm tn)); (try (have t := NumAt.below (b := W0.heap.size + 1) (by first | ((repeat (first | (with_reducible assumption) | ((with_reducible refine NumAt.newAt ?_); (first | (with_reducible rfl) | (simp; done) | fail)) | (with_reducible refine NumAt.alloc ?_) | (with_reducible refine NumAt.drew ?_))); done) | fail) g3; obtain ⟨tl, t0, t1, t2, t3⟩ := t; have tn := Nat.ne_of_lt tl; have tm := Ne.symm tn)); (try (have t := NumAt.below (b := w5.heap.size) (by first | ((repeat (first | (with_reducible assumption) | ((with_reducible refine NumAt.newAt ?_); (first | (with_reducible rfl) | (simp; done) | fail)) | (with_reducible refine NumAt.alloc ?_) | (with_reducible refine NumAt.drew ?_))); done) | fail) g3; obtain ⟨tl, t0, t1, t2, t3⟩ := t; have tn := Nat.ne_of_lt tl; have tm := Ne.symm tn)); (try (have t := NumAt.below (b := w5.heap.size + 1) (by first | ((repeat (first | (with_reducible assumption) | ((with_reducible refine NumAt.newAt ?_); (first | (with_reducible rfl) | (simp; done) | fail)) | (with_reducible refine NumAt.alloc ?_) | (with_reducible refine NumAt.drew ?_))); done) | fail) g3; obtain ⟨tl, t0, t1, t2, t3⟩ := t; have tn := Nat.ne_of_lt tl; have tm := Ne.symm tn)); clear g3))
    all_goals
      have hw0 := hB0.out.size
      have hAe := hAH.out
      clear hAH
      subst hAe
      clear HA QU p64
      go_wp2_with fail
      go_meet
      exact ⟨_, _, b1, b2, p1, p2, n1, c1, n2, c2, q, r, rfl, rfl, ⟨by first | (simp; done) | (simp; omega), by simp [go_sem, *], by simp [go_sem, *]⟩, ⟨by first | (simp; done) | (simp; omega), by simp [go_sem, *], by simp [go_sem, *]⟩, (by repeat (first | (with_reducible assumption) | (with_reducible refine numR_alloc ?_) | (refine NumR.boxed (b := false) ?_ (by first | (simp [go_sem, *]; done) | fail) _ _))), (by repeat (first | (with_reducible assumption) | (with_reducible refine numR_alloc ?_) | (refine NumR.boxed (b := false) ?_ (by first | (simp [go_sem, *]; done) | fail) _ _))), EQ.out, HP.out, (by repeat (first | (with_reducible exact Below.refl _ _) | (with_reducible assumption) | (with_reducible refine below_drewN ?_ _) | (with_reducible refine Below.drew ?_) | (with_reducible refine Below.alloc ?_ ?_ _) | (with_reducible refine Below.setCell ?_ ?_ _) | (with_reducible exact Nat.le_refl _) | exact Nat.le_succ _ | (simp; done) | (simp; omega) | omega | fail))⟩
  case rest =>
    obtain ⟨b, c, b1, b2, p1, p2, n1, c1, n2, c2, q, r, rfl, rfl, ⟨hbl, hb0, hb1⟩, ⟨hcl, hc0, hc1⟩, m1, m2, eqn, hr, hB⟩ := hcut
    have hBw : Below w.heap.size w wc := below_step hB0.out hB
    obtain ⟨zl, z0, z1, z2, z3⟩ := Z0.out
    have y0 := (hB.cell (p := ⟨w.heap.size + 1, 0, none⟩) zl).trans z0
    have y1' := (hB.cell (p := ⟨w.heap.size + 1, 1, none⟩) zl).trans z1
    have y2 := (hB.frozen (p := ⟨w.heap.size + 1, 0, none⟩) zl).trans z2
    have y3 := (hB.frozen (p := ⟨w.heap.size + 1, 1, none⟩) zl).trans z3
    have zl' : w.heap.size + 1 < wc.heap.size := by have := hB.size; omega
    clear z0 z1 z2 z3 zl Z0 K0 HA QU p64 hB0 hB
    have hq : q = hi y := by unfold hi; omega
    have hrl : r = lo y := by unfold lo; omega
    by_cases hin : -9223372036854775808 ≤ q ∧ q ≤ 9223372036854775807
    · have hI : inW y = true := (inW_iff y).2 (by omega)
      have hV : V = .tuple #[(.agg #[.int .i64 (hi (y)), .int .u64 (lo (y))]), .bool true] := by rw [HV.out, hI, if_pos rfl]
      clear HV
      have ti := Lib.hid (fun (_ : Unit) => ToInt_yes b1 p1 n1 c1 q wc m1 hin.1 hin.2)
      have hnb := m2.neg_iff
      obtain ⟨bx, sx, ds, e, hs, hd, hcn, hzz, hy⟩ := m2
      cases e
      have hb2 : b2 = false := by
        cases b2
        · rfl
        · exact absurd (hnb.1 rfl) (by omega)
      subst hb2
      clear hzz m1 hin hI hnb
      have HS := Lib.hid hs; clear hs
      have hv : val ds = r := by simpa using hy.symm
      have hl := len_four ds hd hcn (by rw [hv]; omega)
      have v4 := val_four' ds hl
      rw [hv] at v4
      have g0 := hd 0; have g1 := hd 1; have g2 := hd 2; have g3 := hd 3
      have DG := Lib.hid (fun k (hk : k < 4) => (show ds.getD k 0 = [ds.getD 0 0, ds.getD 1 0, ds.getD 2 0, ds.getD 3 0].getD k 0 from match k, hk with | 0, _ => rfl | 1, _ => rfl | 2, _ => rfl | 3, _ => rfl))
      have DD := Lib.hid hd
      have dig := Lib.hid (fun k (hk : k < 4) wx (hx : Below wc.heap.size wc wx) => digit_any false (.slice p2 n2 c2) ds k (by omega) wx (HS.out.later hx (Nat.le_refl _)))
      have tb := Lib.hid (top4_bd _ _ _ _ g0.1 g1.1 g2.1 g3.1)
      have ts := Lib.hid (fun k (hk : k < 4) => top4_step (ds.getD 0 0) (ds.getD 1 0) (ds.getD 2 0) (ds.getD 3 0) (ds.getD k 0) k hk (DG.out k hk))
      have t0 : top4 (ds.getD 0 0) (ds.getD 1 0) (ds.getD 2 0) (ds.getD 3 0) 0 = r := by simp only [top4]; omega
      have HQ2 := Lib.hid hq; have HR2 := Lib.hid hrl; have T0 := Lib.hid t0; have RB := Lib.hid hr
      have HV2 := Lib.hid hV
      clear hd hcn hl hy hv DG HS v4 hq hrl t0 hr g0 g1 g2 g3 eqn hV y1
      generalize ds.getD 0 0 = d0 at *
      generalize ds.getD 1 0 = d1 at *
      generalize ds.getD 2 0 = d2 at *
      generalize ds.getD 3 0 = d3 at *
      go_wp2_with (go_at_call 17; refine (ti.out ()).mono ?_; rintro e w7 ⟨rfl, g7⟩)
      have b7 : Below w.heap.size w w7 := below_step hBw g7
      go_loopw [8, 9] (fun nv iv wr => ∃ (j : Nat) (N i : Int), j ≤ 4 ∧ iv = .int .i64 i ∧ nv = .int .u64 N ∧ i = (j : Int) - 1 ∧ Hid (N = top4 d0 d1 d2 d3 j) ∧ Below w.heap.size w wr ∧ Below wc.heap.size wc wr) (fun _ i _ => (intOf i + 1).toNat)
      case atStart => exact ⟨4, 0, 3, by omega, rfl, rfl, by omega, Lib.hid (by simp [top4]), b7, g7⟩
      case round =>
        obtain ⟨j, N, i, hj, rfl, rfl, hi, hN, hBr, hBc⟩ := hrel
        by_cases hj0 : j = 0
        · subst hj0
          obtain rfl : i = -1 := by omega
          have r0 := (hBc.cell (p := ⟨w.heap.size + 1, 0, none⟩) zl').trans y0
          have r1 := (hBc.cell (p := ⟨w.heap.size + 1, 1, none⟩) zl').trans y1'
          have r2 := (hBc.frozen (p := ⟨w.heap.size + 1, 0, none⟩) zl').trans y2
          have r3 := (hBc.frozen (p := ⟨w.heap.size + 1, 1, none⟩) zl').trans y3
          clear dig ts tb DD hj hi y0 y1' y2 y3
          go_wp2_with (fail)
          exact bodyPost_ret (v := .tuple #[.agg #[.int .i64 q, .int .u64 N], .bool true]) (by simp [results, Try.results5, go_sem, r0, r1]) rfl ⟨by rw [HV2.out, hN.out, T0.out, HQ2.out, HR2.out], (by repeat (first | (with_reducible exact Below.refl _ _) | (with_reducible assumption) | (with_reducible refine below_drewN ?_ _) | (with_reducible refine Below.drew ?_) | (with_reducible refine Below.alloc ?_ ?_ _) | (with_reducible refine Below.setCell ?_ ?_ _) | (with_reducible exact Nat.le_refl _) | exact Nat.le_succ _ | (simp; done) | (simp; omega) | omega | fail))⟩
        · obtain ⟨k, rfl⟩ : ∃ k, j = k + 1 := ⟨j - 1, by omega⟩
          obtain rfl : i = (k : Int) := by omega
          have hk : k < 4 := by omega
          have st := ts.out k hk
          have t1 := tb.out k (by omega)
          have t2 := tb.out (k + 1) (by omega)
          have dd := DD.out k
          have dg := Lib.hid (dig.out k hk)
          have hN' := hN.out
          have ht := T0.out
          have hrb := RB.out
          have k0 := (hBc.cell (p := ⟨c, 0, none⟩) hcl).trans hc0
          have k1 := (hBc.cell (p := ⟨c, 1, none⟩) hcl).trans hc1
          generalize hP : top4 d0 d1 d2 d3 (k + 1) = P at *
          generalize hQ : top4 d0 d1 d2 d3 k = Q at *
          generalize ds.getD k 0 = d at *
          have HQ := Lib.hid hQ
          have hN2 := hN'.symm
          clear ts tb DD dig hN hP hQ hN'
          subst hN2
          have o1 := or16 P d (by omega) (by omega) dd.1 dd.2
          have o2 : bits .or .u64 (P * 65536) d = P * 65536 + d := by rw [IntKind.wrap_u64, show P * 65536 % 18446744073709551616 = P * 65536 by omega] at o1; exact o1
          have o3 : IntKind.u64.wrap d = d := by rw [IntKind.wrap_u64]; omega
          have O1 := Lib.hid o1; have O2 := Lib.hid o2
          have E3 := Lib.hid (show P * 65536 + d = Q by omega)
          clear t1 t2 st dd ht hrb hj0 hi hj
          have hk3 : (k : Int) ≤ 3 := by omega
          go_wp2_with (go_at_call 18; refine (dg.out _ (by first | exact hBc | exact hBc.drew)).mono ?_; rintro e w9 ⟨rfl, hb⟩; have b9 : Below wc.heap.size wc w9 := below_step (by first | exact hBc | exact hBc.drew) hb; have b8 : Below w.heap.size w w9 := below_step (by first | exact hBr | exact hBr.drew) hb)
          go_roundw
          case rel => exact ⟨k, P * 65536 + d, (k : Int) - 1, by omega, by go_num, by first | go_num | exact congrArg _ O1.out | exact congrArg _ O2.out, by omega, Lib.hid (by rw [HQ.out]; exact E3.out), b8, b9⟩
          case measure => simp [intOf] <;> omega
    · have hI : inW y = false := by
        cases h : inW y
        · rfl
        · have := (inW_iff y).1 h; omega
      have hV : V = .tuple #[.agg #[.int .i64 0, .int .u64 0], .bool false] := by rw [HV.out, hI]; rfl
      have HV2 := Lib.hid hV
      clear hV HV
      have ti := Lib.hid (fun (_ : Unit) => ToInt_no b1 p1 n1 c1 q wc m1 (by omega))
      clear m1 m2 hin hr hq hrl eqn y1 hI
      go_wp2_with (go_at_call 17; refine (ti.out ()).mono ?_; rintro e w7 ⟨rfl, g7⟩; have r0 := (g7.cell (p := ⟨w.heap.size + 1, 0, none⟩) zl').trans y0; have r1 := (g7.cell (p := ⟨w.heap.size + 1, 1, none⟩) zl').trans y1'; have r2 := (g7.frozen (p := ⟨w.heap.size + 1, 0, none⟩) zl').trans y2; have r3 := (g7.frozen (p := ⟨w.heap.size + 1, 1, none⟩) zl').trans y3; have b7 : Below w.heap.size w w7 := below_step hBw g7)
      exact bodyPost_ret (v := .tuple #[.agg #[.int .i64 0, .int .u64 0], .bool false]) (by simp [results, Try.results5, go_sem, r0, r1]) rfl ⟨by rw [HV2.out], (by repeat (first | (with_reducible exact Below.refl _ _) | (with_reducible assumption) | (with_reducible refine below_drewN ?_ _) | (with_reducible refine Below.drew ?_) | (with_reducible refine Below.alloc ?_ ?_ _) | (with_reducible refine Below.setCell ?_ ?_ _) | (with_reducible exact Nat.le_refl _) | exact Nat.le_succ _ | (simp; done) | (simp; omega) | omega | fail))⟩
end Go.Proofs.Ytlfchlholabijaa
