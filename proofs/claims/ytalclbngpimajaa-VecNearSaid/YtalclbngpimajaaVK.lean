/- umbraref03.Toward: the document's direction. -/
import Derived.Test.YtalclbngpimajaaVJ
import Derived.Test.YtalclbngpimajaaWE
import Derived.LoopTactic
import Derived.BigQuiet
import Derived.Deep.QuietTactic
import Derived.StillTailTactics
namespace Go.Proofs.Ytalclbngpimajaa
set_option linter.unusedVariables false
set_option maxRecDepth 2000
set_option linter.unusedSimpArgs false
open Go.RowKit
attribute [local go_sem] setCell_twice setCell_pair

theorem infoFix : (Try.prog.info? 23).map (fun i => (i.zero, i.size, i.bytes)) = some (some (.int .i64 0), 1, 8) := by kernel_rfl

theorem ownF_below {w w' : World} {base : Nat} {e : TypeId} {v : Value} {n : Nat} {xs : List Value} (h : w.ownsRow base e 1 v n xs) (hb : Below w.heap.size w w') : w'.ownsRow base e 1 v n xs := by
  refine ⟨h.1, ?_⟩
  rcases h.2 with hn | ⟨g, cap, cur, rfl, hbase, hg, rest⟩
  · exact .inl hn
  · refine .inr ⟨g, cap, cur, rfl, hbase, ?_, rest⟩
    rw [hb.block g (Array.getElem?_eq_some_iff.1 hg).1]; exact hg
theorem ownF_three {w : World} {base : Nat} {v : Value} {a b c : Int} (h : w.ownsRow base 23 1 v 3 [.int .i64 a, .int .i64 b, .int .i64 c]) :
    ∃ g cap, v = .slice (some ⟨g, 0, none⟩) 3 cap ∧ base ≤ g ∧ g < w.heap.size ∧ 3 ≤ cap ∧ w.cell? ⟨g, 0, none⟩ = some (.int .i64 a) ∧ w.cell? ⟨g, 1, none⟩ = some (.int .i64 b) ∧ w.cell? ⟨g, 2, none⟩ = some (.int .i64 c) := by
  rcases h.2 with ⟨_, hn⟩ | ⟨g, cap, cur, rfl, hb, hg, hc, hm, hs, ht⟩
  · exact absurd hn (by simp)
  · exact ⟨g, cap, rfl, hb, (Array.getElem?_eq_some_iff.1 hg).1, hc, (h.cellAt 0 (by omega)).trans (by simp), (h.cellAt 1 (by omega)).trans (by simp), (h.cellAt 2 (by omega)).trans (by simp)⟩
theorem grownF_keeps {w5 w6 : World} {o : Obj} {base : Nat} {e : TypeId} {v : Value} {n : Nat} {xs : List Value} (hown : w5.ownsRow base e 1 v n xs) (hg : (w5.alloc o).grownBy w6 v.ownBlock) {t : Nat} (ht : t < base) (ht5 : t < w5.heap.size) :
    (∀ i, w6.cell? ⟨t, i, none⟩ = w5.cell? ⟨t, i, none⟩) ∧ ∀ i, w6.frozen? ⟨t, i, none⟩ = w5.frozen? ⟨t, i, none⟩ := by
  have hne : some t ≠ v.ownBlock := fun h => by have := (hown.lt t h.symm).1; omega
  have e : w6.heap[t]? = w5.heap[t]? := by rw [hg.block t (by simp; omega) hne, show (w5.alloc o).heap[t]? = w5.heap[t]? from by show (w5.heap.push o)[t]? = _; rw [Array.getElem?_push_lt ht5, Array.getElem?_eq_getElem ht5]]
  exact ⟨fun i => World.cell?_of_block (w := w5) e, fun i => World.frozen?_of_block (w := w5) e⟩
theorem ownF_form {w : World} {base : Nat} {e : TypeId} {v : Value} {n : Nat} {xs : List Value} (h : w.ownsRow base e 1 v n xs) : ∃ p k c, v = .slice p k c := by
  rcases h.2 with ⟨rfl, _⟩ | ⟨g, cap, cur, rfl, _⟩
  · exact ⟨_, _, _, rfl⟩
  · exact ⟨_, _, _, rfl⟩

/-- part -/
theorem Rpart_any (n : Int) (w : World) :
    Calls Try.prog 93 #[.int .i64 n] w fun e w' => e = .returned (.int .i64 (partF n)) ∧ w = w' := by
  by_cases h1 : n < -1073741824
  · go_enter Try.func93, Try.ntmps93
    go_wp2
    go_ret
    exact ⟨ret_int (by unfold partF; omega), rfl⟩
  · by_cases h2 : 1073741824 < n
    all_goals
      go_enter Try.func93, Try.ntmps93
      go_wp2
      go_ret
      exact ⟨ret_int (by unfold partF; omega), rfl⟩

/-- what a round of the loop makes of the part p: f -/
def RoundOf (root p f : Int) : Prop := ∃ m q r Q : Int, 0 ≤ q ∧ q ≤ 9223372036854775808 ∧ 0 ≤ r ∧ (p < 0 ∧ 0 < r ∧ Q = q + 1 ∨ p < 0 ∧ r = 0 ∧ Q = q ∨ ¬ p < 0 ∧ Q = q) ∧
  (∀ w, Calls Try.prog 87 #[.int .i64 p] w fun e w' => e = .returned (.int .u64 m) ∧ w = w') ∧
  (∀ w, Calls Try.prog 94 #[.int .u64 m, .int .u64 0, .int .u64 root] w fun e w' => e = .returned (.tuple #[.int .u64 q, .int .u64 r]) ∧ ∃ n, w' = w.drewN n) ∧
  (∀ w, Calls Try.prog 95 #[.int .u64 Q, .bool (decide (p < 0)), .bool false] w fun e w' => e = .returned (.int .i64 f) ∧ w = w')

theorem VecAt.moved {b : Nat} {x y z : Int} {W W' : World} (h : VecAt b x y z W) (k : (∀ i, W'.cell? ⟨b, i, none⟩ = W.cell? ⟨b, i, none⟩) ∧ ∀ i, W'.frozen? ⟨b, i, none⟩ = W.frozen? ⟨b, i, none⟩) (hl : b < W'.heap.size) : VecAt b x y z W' :=
  ⟨hl, (k.1 0).trans h.c0, (k.1 1).trans h.c1, (k.1 2).trans h.c2, (k.2 0).trans h.f0, (k.2 1).trans h.f1, (k.2 2).trans h.f2⟩

theorem RVToward_zero (x y z px py pz S : Int) (w : World)
    (bx : -1073741824 ≤ px ∧ px ≤ 1073741824) (by' : -1073741824 ≤ py ∧ py ≤ 1073741824) (bz : -1073741824 ≤ pz ∧ pz ≤ 1073741824)
    (ex : IntKind.i64.wrap (px * px) = px * px) (ey : IntKind.i64.wrap (py * py) = py * py) (ez : IntKind.i64.wrap (pz * pz) = pz * pz)
    (exy : IntKind.i64.wrap (px * px + py * py) = px * px + py * py) (exyz : IntKind.i64.wrap (px * px + py * py + pz * pz) = px * px + py * py + pz * pz) (hS : IntKind.u64.wrap (px * px + py * py + pz * pz) = S)
    (cx : Hid (∀ w, Calls Try.prog 93 #[.int .i64 x] w fun e w' => e = .returned (.int .i64 px) ∧ w = w'))
    (cy : Hid (∀ w, Calls Try.prog 93 #[.int .i64 y] w fun e w' => e = .returned (.int .i64 py) ∧ w = w'))
    (cz : Hid (∀ w, Calls Try.prog 93 #[.int .i64 z] w fun e w' => e = .returned (.int .i64 pz) ∧ w = w'))
    (rt : Hid (∀ w, Calls Try.prog 88 #[.int .u64 S, .int .u64 0] w fun e w' => e = .returned (.int .u64 0) ∧ w = w')) :
    Calls Try.prog 39 #[(.agg #[.int .i64 x, .int .i64 y, .int .i64 z])] w fun e w' => e = .returned (.agg #[.int .i64 0, .int .i64 0, .int .i64 0]) ∧ Below w.heap.size w w' := by
  go_enter Try.func39, Try.ntmps39
  go_wp2_with (fail)
  go_quiet (first | (go_at_call 93; with_reducible exact quiet_eq cx.out) | (go_at_call 93; with_reducible exact quiet_eq cy.out) | (go_at_call 93; with_reducible exact quiet_eq cz.out))
  go_wp2_with (go_at_call 88; refine (rt.out _).mono ?_; rintro e w1 ⟨rfl, rfl⟩)
  exact bodyPost_ret (v := (.agg #[.int .i64 0, .int .i64 0, .int .i64 0])) (by simp [results, Try.results39, go_sem]) rfl ⟨rfl, (by repeat (first | exact Below.refl _ _ | assumption | refine below_drewN ?_ _ | refine Below.drew ?_ | refine Below.alloc ?_ (by first | omega | (simp; done) | (simp; omega)) _ | refine Below.setCell ?_ (by first | (simp; done) | (simp; omega)) _))⟩

theorem pick3 (root px py pz X Y Z : Int) (k : Nat) (hk : k < 3) (B : Nat) (W : World) (rX : RoundOf root px X) (rY : RoundOf root py Y) (rZ : RoundOf root pz Z)
    (s0 : W.cell? ⟨B, 0, none⟩ = some (.int .i64 px)) (s1 : W.cell? ⟨B, 1, none⟩ = some (.int .i64 py)) (s2 : W.cell? ⟨B, 2, none⟩ = some (.int .i64 pz)) :
    ∃ p f, RoundOf root p f ∧ W.cell? ⟨B, k, none⟩ = some (.int .i64 p) ∧ Hid ([X, Y, Z].take (k + 1) = [X, Y, Z].take k ++ [f]) :=
  match k, hk with
  | 0, _ => ⟨px, X, rX, s0, rfl⟩
  | 1, _ => ⟨py, Y, rY, s1, rfl⟩
  | 2, _ => ⟨pz, Z, rZ, s2, rfl⟩

set_option maxHeartbeats 2000000 in
theorem RVToward_core (x y z px py pz S root X Y Z : Int) (w : World) (hroot : (root == 0) = false)
    (bx : -1073741824 ≤ px ∧ px ≤ 1073741824) (by' : -1073741824 ≤ py ∧ py ≤ 1073741824) (bz : -1073741824 ≤ pz ∧ pz ≤ 1073741824)
    (ex : IntKind.i64.wrap (px * px) = px * px) (ey : IntKind.i64.wrap (py * py) = py * py) (ez : IntKind.i64.wrap (pz * pz) = pz * pz)
    (exy : IntKind.i64.wrap (px * px + py * py) = px * px + py * py) (exyz : IntKind.i64.wrap (px * px + py * py + pz * pz) = px * px + py * py + pz * pz) (hS : IntKind.u64.wrap (px * px + py * py + pz * pz) = S)
    (cx : Hid (∀ w, Calls Try.prog 93 #[.int .i64 x] w fun e w' => e = .returned (.int .i64 px) ∧ w = w'))
    (cy : Hid (∀ w, Calls Try.prog 93 #[.int .i64 y] w fun e w' => e = .returned (.int .i64 py) ∧ w = w'))
    (cz : Hid (∀ w, Calls Try.prog 93 #[.int .i64 z] w fun e w' => e = .returned (.int .i64 pz) ∧ w = w'))
    (rt : Hid (∀ w, Calls Try.prog 88 #[.int .u64 S, .int .u64 0] w fun e w' => e = .returned (.int .u64 root) ∧ w = w'))
    (rX : Hid (RoundOf root px X)) (rY : Hid (RoundOf root py Y)) (rZ : Hid (RoundOf root pz Z)) :
    Calls Try.prog 39 #[(.agg #[.int .i64 x, .int .i64 y, .int .i64 z])] w fun e w' => e = .returned (.agg #[.int .i64 X, .int .i64 Y, .int .i64 Z]) ∧ Below w.heap.size w w' := by
  obtain ⟨i0, hi, hz0, hz1, hz2⟩ := info_parts infoFix
  go_enter Try.func39, Try.ntmps39
  go_wp2_with (fail)
  go_quiet (first | (go_at_call 93; with_reducible exact quiet_eq cx.out) | (go_at_call 93; with_reducible exact quiet_eq cy.out) | (go_at_call 93; with_reducible exact quiet_eq cz.out))
  go_wp2_with (go_at_call 88; refine (rt.out _).mono ?_; rintro e w1 ⟨rfl, rfl⟩)
  clear cx cy cz rt ex ey ez exy exyz hS
  go_loopw [8, 9] (fun ov iv wr => ∃ (k : Nat) (v : Value) (ds : List Int), k ≤ 3 ∧ iv = .int .i64 k ∧ v = ov ∧ Hid (ds = [X, Y, Z].take k) ∧ Below w.heap.size w wr ∧ w.heap.size + 3 ≤ wr.heap.size ∧ Hid (wr.ownsRow (w.heap.size + 3) 23 1 v k (ds.map (Value.int .i64))) ∧ Hid (VecAt (w.heap.size + 1) 0 0 0 wr) ∧
    wr.cell? ⟨w.heap.size + 1 + 1, 0, none⟩ = some (.int .i64 px) ∧ wr.cell? ⟨w.heap.size + 1 + 1, 1, none⟩ = some (.int .i64 py) ∧ wr.cell? ⟨w.heap.size + 1 + 1, 2, none⟩ = some (.int .i64 pz)) (fun _ i _ => (3 - (intOf i).toNat))
  case atStart => exact ⟨0, .slice none 0 0, [], by omega, rfl, rfl, Lib.hid rfl, (by repeat (first | exact Below.refl _ _ | assumption | refine below_drewN ?_ _ | refine Below.drew ?_ | refine Below.alloc ?_ (by first | omega | (simp; done) | (simp; omega)) _ | refine Below.setCell ?_ (by first | (simp; done) | (simp; omega)) _)), by simp, Lib.hid ⟨rfl, .inl ⟨rfl, rfl⟩⟩, Lib.hid ⟨by simp <;> omega, by simp [go_sem], by simp [go_sem], by simp [go_sem], by simp [go_sem], by simp [go_sem], by simp [go_sem]⟩, by simp [go_sem], by simp [go_sem], by simp [go_sem]⟩
  case round =>
    obtain ⟨k, v, ds, hk, rfl, rfl, hds, hB, hsz, O, hV, s0, s1, s2⟩ := hrel
    by_cases hlt : k < 3
    · obtain ⟨p, f, hR, sk, htk⟩ := pick3 root px py pz X Y Z k hlt _ wr rX.out rY.out rZ.out s0 s1 s2
      obtain ⟨m, q, r, Q, q0, q1, r0, hQ, sz, dv, ne⟩ := hR
      have hlt' : (k : Int) < 3 := by omega
      have hlen := O.out.1
      rcases hQ with ⟨hn, hr, rfl⟩ | ⟨hn, rfl, rfl⟩ | ⟨hn, rfl⟩
      · rw [decide_eq_true hn] at ne
        have sz := Lib.hid sz; have dv := Lib.hid dv; have ne := Lib.hid ne
        go_wp2_with (go_at_call 87; refine (sz.out _).mono ?_; rintro e w1 ⟨rfl, rfl⟩)
        (go_at_call 94; refine (dv.out _).mono ?_; rintro e w1 ⟨rfl, n, rfl⟩; have hd5 : Below wr.heap.size wr (wr.drewN n) := below_drewN (Below.refl _ _) _; generalize wr.drewN n = w5 at hd5 ⊢; have hB5 : Below w.heap.size w w5 := below_step hB hd5; have hs5 : w.heap.size + 3 ≤ w5.heap.size := (by have := hd5.size; omega); have O5 := Lib.hid (ownF_below O.out hd5); have V5 := Lib.hid (hV.out.below hd5); have t0 := (hd5.cell (p := ⟨w.heap.size + 1 + 1, 0, none⟩) (show w.heap.size + 1 + 1 < wr.heap.size by omega)).trans s0; have t1 := (hd5.cell (p := ⟨w.heap.size + 1 + 1, 1, none⟩) (show w.heap.size + 1 + 1 < wr.heap.size by omega)).trans s1; have t2 := (hd5.cell (p := ⟨w.heap.size + 1 + 1, 2, none⟩) (show w.heap.size + 1 + 1 < wr.heap.size by omega)).trans s2; have tk := (hd5.cell (p := ⟨w.heap.size + 1 + 1, k, none⟩) (show w.heap.size + 1 + 1 < wr.heap.size by omega)).trans sk)
        go_wp2_with (first | (go_at_call 95; refine (ne.out _).mono ?_; rintro e w1 ⟨rfl, rfl⟩) | (at_builtin; refine wpList_append_own _ rfl _ _ 94 rfl (w.heap.size + 3) 23 i0 (.int .i64 0) 1 8 Try.underlying94 hi hz0 hz1 hz2 rfl (by decide) _ _ _ rfl (O5.out.alloc _) ⟨w5.heap.size, 0, none⟩ 1 1 [.int .i64 f] rfl rfl ?c1 ?c2 ?c3 ?c4 ?c5 ?_; (case c1 => exact cell_one_new _ _ _); (case c2 => simp [Value.oneCell']); (case c3 => unfold maxLen; omega); (case c4 => omega); (case c5 => simp; omega); intro v' w6 hown6 hgrow _; have hg6 : (w5.alloc (.cells #[.int .i64 f] 23)).grownBy w6 v.ownBlock := hgrow; clear hgrow; have b6 : Below w.heap.size w w6 := Below.grown (hB5.alloc (by omega) _) hg6 (by simp; omega) (fun t ht => by have := (O5.out.lt t ht).1; omega); have z6 : w.heap.size + 3 ≤ w6.heap.size := (by have := hg6.size; simp at this; omega); have k1 := grownF_keeps O5.out hg6 (t := w.heap.size + 1) (by omega) (by omega); have k2 := grownF_keeps O5.out hg6 (t := w.heap.size + 1 + 1) (by omega) (by omega); have V6 := Lib.hid (VecAt.moved V5.out k1 (by omega)); have C0 := (k2.1 0).trans t0; have C1 := (k2.1 1).trans t1; have C2 := (k2.1 2).trans t2; clear k1 k2; obtain ⟨pp, nn, cp, hv'⟩ := ownF_form hown6; rw [hv'] at hown6; rw [hv']; clear hv'; have O6 := Lib.hid hown6; clear hown6))
        go_roundw
        case rel => exact ⟨k + 1, .slice pp nn cp, ds ++ [f], by omega, by go_num, rfl, Lib.hid (by rw [hds.out]; exact htk.out.symm), (by repeat (first | exact Below.refl _ _ | assumption | refine below_drewN ?_ _ | refine Below.drew ?_ | refine Below.alloc ?_ (by first | omega | (simp; done) | (simp; omega)) _ | refine Below.setCell ?_ (by first | (simp; done) | (simp; omega)) _)), by omega, Lib.hid (by rw [List.map_append]; exact O6.out), V6, C0, C1, C2⟩
        case measure => simp [intOf]; omega
      · rw [decide_eq_true hn] at ne
        have sz := Lib.hid sz; have dv := Lib.hid dv; have ne := Lib.hid ne
        go_wp2_with (go_at_call 87; refine (sz.out _).mono ?_; rintro e w1 ⟨rfl, rfl⟩)
        (go_at_call 94; refine (dv.out _).mono ?_; rintro e w1 ⟨rfl, n, rfl⟩; have hd5 : Below wr.heap.size wr (wr.drewN n) := below_drewN (Below.refl _ _) _; generalize wr.drewN n = w5 at hd5 ⊢; have hB5 : Below w.heap.size w w5 := below_step hB hd5; have hs5 : w.heap.size + 3 ≤ w5.heap.size := (by have := hd5.size; omega); have O5 := Lib.hid (ownF_below O.out hd5); have V5 := Lib.hid (hV.out.below hd5); have t0 := (hd5.cell (p := ⟨w.heap.size + 1 + 1, 0, none⟩) (show w.heap.size + 1 + 1 < wr.heap.size by omega)).trans s0; have t1 := (hd5.cell (p := ⟨w.heap.size + 1 + 1, 1, none⟩) (show w.heap.size + 1 + 1 < wr.heap.size by omega)).trans s1; have t2 := (hd5.cell (p := ⟨w.heap.size + 1 + 1, 2, none⟩) (show w.heap.size + 1 + 1 < wr.heap.size by omega)).trans s2; have tk := (hd5.cell (p := ⟨w.heap.size + 1 + 1, k, none⟩) (show w.heap.size + 1 + 1 < wr.heap.size by omega)).trans sk)
        go_wp2_with (first | (go_at_call 95; refine (ne.out _).mono ?_; rintro e w1 ⟨rfl, rfl⟩) | (at_builtin; refine wpList_append_own _ rfl _ _ 94 rfl (w.heap.size + 3) 23 i0 (.int .i64 0) 1 8 Try.underlying94 hi hz0 hz1 hz2 rfl (by decide) _ _ _ rfl (O5.out.alloc _) ⟨w5.heap.size, 0, none⟩ 1 1 [.int .i64 f] rfl rfl ?c1 ?c2 ?c3 ?c4 ?c5 ?_; (case c1 => exact cell_one_new _ _ _); (case c2 => simp [Value.oneCell']); (case c3 => unfold maxLen; omega); (case c4 => omega); (case c5 => simp; omega); intro v' w6 hown6 hgrow _; have hg6 : (w5.alloc (.cells #[.int .i64 f] 23)).grownBy w6 v.ownBlock := hgrow; clear hgrow; have b6 : Below w.heap.size w w6 := Below.grown (hB5.alloc (by omega) _) hg6 (by simp; omega) (fun t ht => by have := (O5.out.lt t ht).1; omega); have z6 : w.heap.size + 3 ≤ w6.heap.size := (by have := hg6.size; simp at this; omega); have k1 := grownF_keeps O5.out hg6 (t := w.heap.size + 1) (by omega) (by omega); have k2 := grownF_keeps O5.out hg6 (t := w.heap.size + 1 + 1) (by omega) (by omega); have V6 := Lib.hid (VecAt.moved V5.out k1 (by omega)); have C0 := (k2.1 0).trans t0; have C1 := (k2.1 1).trans t1; have C2 := (k2.1 2).trans t2; clear k1 k2; obtain ⟨pp, nn, cp, hv'⟩ := ownF_form hown6; rw [hv'] at hown6; rw [hv']; clear hv'; have O6 := Lib.hid hown6; clear hown6))
        go_roundw
        case rel => exact ⟨k + 1, .slice pp nn cp, ds ++ [f], by omega, by go_num, rfl, Lib.hid (by rw [hds.out]; exact htk.out.symm), (by repeat (first | exact Below.refl _ _ | assumption | refine below_drewN ?_ _ | refine Below.drew ?_ | refine Below.alloc ?_ (by first | omega | (simp; done) | (simp; omega)) _ | refine Below.setCell ?_ (by first | (simp; done) | (simp; omega)) _)), by omega, Lib.hid (by rw [List.map_append]; exact O6.out), V6, C0, C1, C2⟩
        case measure => simp [intOf]; omega
      · rw [decide_eq_false hn] at ne
        have sz := Lib.hid sz; have dv := Lib.hid dv; have ne := Lib.hid ne
        go_wp2_with (go_at_call 87; refine (sz.out _).mono ?_; rintro e w1 ⟨rfl, rfl⟩)
        (go_at_call 94; refine (dv.out _).mono ?_; rintro e w1 ⟨rfl, n, rfl⟩; have hd5 : Below wr.heap.size wr (wr.drewN n) := below_drewN (Below.refl _ _) _; generalize wr.drewN n = w5 at hd5 ⊢; have hB5 : Below w.heap.size w w5 := below_step hB hd5; have hs5 : w.heap.size + 3 ≤ w5.heap.size := (by have := hd5.size; omega); have O5 := Lib.hid (ownF_below O.out hd5); have V5 := Lib.hid (hV.out.below hd5); have t0 := (hd5.cell (p := ⟨w.heap.size + 1 + 1, 0, none⟩) (show w.heap.size + 1 + 1 < wr.heap.size by omega)).trans s0; have t1 := (hd5.cell (p := ⟨w.heap.size + 1 + 1, 1, none⟩) (show w.heap.size + 1 + 1 < wr.heap.size by omega)).trans s1; have t2 := (hd5.cell (p := ⟨w.heap.size + 1 + 1, 2, none⟩) (show w.heap.size + 1 + 1 < wr.heap.size by omega)).trans s2; have tk := (hd5.cell (p := ⟨w.heap.size + 1 + 1, k, none⟩) (show w.heap.size + 1 + 1 < wr.heap.size by omega)).trans sk)
        go_wp2_with (first | (go_at_call 95; refine (ne.out _).mono ?_; rintro e w1 ⟨rfl, rfl⟩) | (at_builtin; refine wpList_append_own _ rfl _ _ 94 rfl (w.heap.size + 3) 23 i0 (.int .i64 0) 1 8 Try.underlying94 hi hz0 hz1 hz2 rfl (by decide) _ _ _ rfl (O5.out.alloc _) ⟨w5.heap.size, 0, none⟩ 1 1 [.int .i64 f] rfl rfl ?c1 ?c2 ?c3 ?c4 ?c5 ?_; (case c1 => exact cell_one_new _ _ _); (case c2 => simp [Value.oneCell']); (case c3 => unfold maxLen; omega); (case c4 => omega); (case c5 => simp; omega); intro v' w6 hown6 hgrow _; have hg6 : (w5.alloc (.cells #[.int .i64 f] 23)).grownBy w6 v.ownBlock := hgrow; clear hgrow; have b6 : Below w.heap.size w w6 := Below.grown (hB5.alloc (by omega) _) hg6 (by simp; omega) (fun t ht => by have := (O5.out.lt t ht).1; omega); have z6 : w.heap.size + 3 ≤ w6.heap.size := (by have := hg6.size; simp at this; omega); have k1 := grownF_keeps O5.out hg6 (t := w.heap.size + 1) (by omega) (by omega); have k2 := grownF_keeps O5.out hg6 (t := w.heap.size + 1 + 1) (by omega) (by omega); have V6 := Lib.hid (VecAt.moved V5.out k1 (by omega)); have C0 := (k2.1 0).trans t0; have C1 := (k2.1 1).trans t1; have C2 := (k2.1 2).trans t2; clear k1 k2; obtain ⟨pp, nn, cp, hv'⟩ := ownF_form hown6; rw [hv'] at hown6; rw [hv']; clear hv'; have O6 := Lib.hid hown6; clear hown6))
        go_roundw
        case rel => exact ⟨k + 1, .slice pp nn cp, ds ++ [f], by omega, by go_num, rfl, Lib.hid (by rw [hds.out]; exact htk.out.symm), (by repeat (first | exact Below.refl _ _ | assumption | refine below_drewN ?_ _ | refine Below.drew ?_ | refine Below.alloc ?_ (by first | omega | (simp; done) | (simp; omega)) _ | refine Below.setCell ?_ (by first | (simp; done) | (simp; omega)) _)), by omega, Lib.hid (by rw [List.map_append]; exact O6.out), V6, C0, C1, C2⟩
        case measure => simp [intOf]; omega
    · obtain rfl : k = 3 := by omega
      have ho := O.out
      rw [hds.out] at ho
      obtain ⟨g, cap, rfl, hg0, hg1, hcap, c0, c1, c2⟩ := ownF_three ho
      obtain ⟨vl, v0, v1, v2, f0, f1, f2⟩ := hV.out
      clear ho O hV hds s0 s1 s2 rX rY rZ
      go_wp2_with (fail)
      refine wp_region_still_tail 10 (by kernel_rfl) (by kernel_rfl) ?_; simp only [List.take_succ_cons, List.take_zero, List.drop_succ_cons, List.drop_zero]; change wpStill _ _ (World.drew _) (fun a1 => wpList _ _ _ _ a1 (World.drew _)) _ _; repeat still_step
      refine wpStill_nil ?_
      go_wp2
      exact bodyPost_ret (v := (.agg #[.int .i64 X, .int .i64 Y, .int .i64 Z])) (by simp [results, Try.results39, go_sem, v0, v1, v2]) rfl ⟨rfl, (by repeat (first | exact Below.refl _ _ | assumption | refine below_drewN ?_ _ | refine Below.drew ?_ | refine Below.alloc ?_ (by first | omega | (simp; done) | (simp; omega)) _ | refine Below.setCell ?_ (by first | (simp; done) | (simp; omega)) _))⟩
end Go.Proofs.Ytalclbngpimajaa
