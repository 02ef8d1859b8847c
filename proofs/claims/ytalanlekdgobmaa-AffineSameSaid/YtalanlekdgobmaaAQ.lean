/- umbralaw04.AffineSame: the walk. -/
import Derived.Test.YtalanlekdgobmaaAT
import Derived.Deep.DeepCutAuto
import Derived.LoopN
namespace Go.Proofs.Ytalanlekdgobmaa
set_option linter.unusedVariables false
set_option maxRecDepth 2000
set_option linter.unusedSimpArgs false
open Go.RowKit
attribute [local go_sem] setCell_twice setCell_pair
attribute [local go_sem ↓] eqA neqA

theorem Then_two (f g : Aff) (hf : inA f) (hg : inA g) (blk : Nat) (w : World) (h : Own blk (f.cells ++ g.cells) w) : Calls Try.prog 30 #[.slice (some ⟨blk, 0, none⟩) 2 2] w fun e w' => e = .returned (.agg #[.int .i64 (compF (compF sameA f) g).m0, .int .i64 (compF (compF sameA f) g).m1, .int .i64 (compF (compF sameA f) g).m2, .int .i64 (compF (compF sameA f) g).m3, .int .i64 (compF (compF sameA f) g).m4, .int .i64 (compF (compF sameA f) g).m5, .int .i64 (compF (compF sameA f) g).m6, .int .i64 (compF (compF sameA f) g).m7, .int .i64 (compF (compF sameA f) g).m8, .int .i64 (compF (compF sameA f) g).tx, .int .i64 (compF (compF sameA f) g).ty, .int .i64 (compF (compF sameA f) g).tz]) ∧ Below w.heap.size w w' :=
  Then_walk blk 0 2 2 [f, g] _ (by omega) w h.lt ⟨rfl, fun k hk => match k, hk with | 0, _ => hf | 1, _ => hg, fun k hk j v hv => match k, hk with
    | 0, _ => by
      have := h.at (0 + j) v (by
        have hj : j < 12 := (List.getElem?_eq_some_iff.1 hv).1
        rw [← hv, Nat.zero_add]
        exact List.getElem?_append_left (l₁ := f.cells) (l₂ := g.cells) hj)
      rwa [show 0 + 0 * 12 + j = 0 + j by omega]
    | 1, _ => by
      have := h.at (12 + j) v (by
        rw [← hv]
        have := List.getElem?_append_right (l₁ := f.cells) (l₂ := g.cells) (i := 12 + j) (by show 12 ≤ 12 + j; omega)
        refine this.trans ?_
        show g.cells[12 + j - 12]? = _
        rw [Nat.add_sub_cancel_left]; rfl)
      rwa [show 0 + 1 * 12 + j = 12 + j by omega]⟩ rfl

set_option maxHeartbeats 4000000 in
theorem Then_nil (p : Option Addr) (cap : Nat) (w : World) : Calls Try.prog 30 #[.slice p 0 cap] w fun e w' => e = .returned (.agg #[.int .i64 4294967296, .int .i64 0, .int .i64 0, .int .i64 0, .int .i64 4294967296, .int .i64 0, .int .i64 0, .int .i64 0, .int .i64 4294967296, .int .i64 0, .int .i64 0, .int .i64 0]) ∧ Below w.heap.size w w' := by
  have sm := Lib.hid Same_any
  go_enter Try.func30, Try.ntmps30
  go_upto_region 1 with fail
  obtain ⟨W0, hW⟩ : ∃ W0, W0 = (w.alloc (.cells #[.int .i64 0, .int .i64 0, .int .i64 0, .int .i64 0, .int .i64 0, .int .i64 0, .int .i64 0, .int .i64 0, .int .i64 0, .int .i64 0, .int .i64 0, .int .i64 0] 29)) := ⟨_, rfl⟩
  have hB0 : Below w.heap.size w W0 := hW ▸ (Below.al (Below.refl _ _))
  have HR : Hid (Own w.heap.size [.int .i64 0, .int .i64 0, .int .i64 0, .int .i64 0, .int .i64 0, .int .i64 0, .int .i64 0, .int .i64 0, .int .i64 0, .int .i64 0, .int .i64 0, .int .i64 0] W0) := Lib.hid (hW ▸ (Own.newAt (by simp)))
  rw [← hW]
  clear hW
  obtain ⟨R, eR⟩ : ∃ X, X = w.heap.size := ⟨_, rfl⟩
  rw [← eR] at HR ⊢
  have Rw : w.heap.size ≤ R := by omega
  clear eR
  go_upto_region 2 with (go_at_call 15; refine (sm.out _).mono ?_; rintro e w1 ⟨rfl, hb⟩)
  have HR1 := Lib.hid (HR.out.later hb)
  clear HR sm
  obtain ⟨W1, hW⟩ : ∃ W1, W1 = (w1.alloc (.cells #[.int .i64 4294967296, .int .i64 0, .int .i64 0, .int .i64 0, .int .i64 4294967296, .int .i64 0, .int .i64 0, .int .i64 0, .int .i64 4294967296, .int .i64 0, .int .i64 0, .int .i64 0] 29)) := ⟨_, rfl⟩
  have hB1 : Below w1.heap.size w1 W1 := hW ▸ (Below.al (Below.refl _ _))
  have HD : Hid (Own w1.heap.size [.int .i64 4294967296, .int .i64 0, .int .i64 0, .int .i64 0, .int .i64 4294967296, .int .i64 0, .int .i64 0, .int .i64 0, .int .i64 4294967296, .int .i64 0, .int .i64 0, .int .i64 0] W1) := Lib.hid (hW ▸ (Own.newAt (by simp)))
  rw [← hW]
  clear hW
  obtain ⟨D, eD⟩ : ∃ X, X = w1.heap.size := ⟨_, rfl⟩
  rw [← eD] at HD ⊢
  have Dw : w1.heap.size ≤ D := by omega
  clear eD
  have HR := Lib.hid (HR1.out.later hB1)
  have hB2 : Below w.heap.size w W1 := Below.go (Below.go hB0 hb) hB1
  clear HR1 hB1 hb hB0
  go_wp2_with (fail)
  refine wp_loop_rounds 1 ?_
  rw [rounds_succ]
  have oD := HD.out
  have D0 := oD.at 0 _ rfl
  have D1 := oD.at 1 _ rfl
  have D2 := oD.at 2 _ rfl
  have D3 := oD.at 3 _ rfl
  have D4 := oD.at 4 _ rfl
  have D5 := oD.at 5 _ rfl
  have D6 := oD.at 6 _ rfl
  have D7 := oD.at 7 _ rfl
  have D8 := oD.at 8 _ rfl
  have D9 := oD.at 9 _ rfl
  have D10 := oD.at 10 _ rfl
  have D11 := oD.at 11 _ rfl
  have Dl := oD.lt
  clear oD
  have oR := HR.out
  have R0 := oR.at 0 _ rfl
  have Rf0 := oR.ok 0 (by simp)
  have R1 := oR.at 1 _ rfl
  have Rf1 := oR.ok 1 (by simp)
  have R2 := oR.at 2 _ rfl
  have Rf2 := oR.ok 2 (by simp)
  have R3 := oR.at 3 _ rfl
  have Rf3 := oR.ok 3 (by simp)
  have R4 := oR.at 4 _ rfl
  have Rf4 := oR.ok 4 (by simp)
  have R5 := oR.at 5 _ rfl
  have Rf5 := oR.ok 5 (by simp)
  have R6 := oR.at 6 _ rfl
  have Rf6 := oR.ok 6 (by simp)
  have R7 := oR.at 7 _ rfl
  have Rf7 := oR.ok 7 (by simp)
  have R8 := oR.at 8 _ rfl
  have Rf8 := oR.ok 8 (by simp)
  have R9 := oR.at 9 _ rfl
  have Rf9 := oR.ok 9 (by simp)
  have R10 := oR.at 10 _ rfl
  have Rf10 := oR.ok 10 (by simp)
  have R11 := oR.at 11 _ rfl
  have Rf11 := oR.ok 11 (by simp)
  have Rl := oR.lt
  clear oR
  clear HD HR
  go_wp2_with (fail)
  exact bodyPost_ret (v := (.agg #[.int .i64 4294967296, .int .i64 0, .int .i64 0, .int .i64 0, .int .i64 4294967296, .int .i64 0, .int .i64 0, .int .i64 0, .int .i64 4294967296, .int .i64 0, .int .i64 0, .int .i64 0])) (by simp [results, Try.results30, go_sem, R0, R1, R2, R3, R4, R5, R6, R7, R8, R9, R10, R11]) rfl ⟨rfl, by repeat (first | (with_reducible assumption) | (with_reducible refine Below.setCell ?_ (by first | assumption | (simp; omega)) _))⟩

set_option maxHeartbeats 8000000 in
theorem Same_core (a : Aff) (x y z X Y Z : Int) (w : World)
    (k0 : Hid (∀ w, Calls Try.prog 15 #[] w fun e w' => e = .returned (.agg #[.int .i64 4294967296, .int .i64 0, .int .i64 0, .int .i64 0, .int .i64 4294967296, .int .i64 0, .int .i64 0, .int .i64 0, .int .i64 4294967296, .int .i64 0, .int .i64 0, .int .i64 0]) ∧ Below w.heap.size w w'))
    (k1 : Hid (∀ w, Calls Try.prog 26 #[(.agg #[.int .i64 4294967296, .int .i64 0, .int .i64 0, .int .i64 0, .int .i64 4294967296, .int .i64 0, .int .i64 0, .int .i64 0, .int .i64 4294967296, .int .i64 0, .int .i64 0, .int .i64 0]), (.agg #[.int .i64 x, .int .i64 y, .int .i64 z])] w fun e w' => e = .returned (.agg #[.int .i64 x, .int .i64 y, .int .i64 z]) ∧ Below w.heap.size w w'))
    (k2 : Hid (∀ w blk, Own blk [.int .i64 4294967296, .int .i64 0, .int .i64 0, .int .i64 0, .int .i64 4294967296, .int .i64 0, .int .i64 0, .int .i64 0, .int .i64 4294967296, .int .i64 0, .int .i64 0, .int .i64 0, .int .i64 a.m0, .int .i64 a.m1, .int .i64 a.m2, .int .i64 a.m3, .int .i64 a.m4, .int .i64 a.m5, .int .i64 a.m6, .int .i64 a.m7, .int .i64 a.m8, .int .i64 a.tx, .int .i64 a.ty, .int .i64 a.tz] w → Calls Try.prog 30 #[.slice (some ⟨blk, 0, none⟩) 2 2] w fun e w' => e = .returned (.agg #[.int .i64 a.m0, .int .i64 a.m1, .int .i64 a.m2, .int .i64 a.m3, .int .i64 a.m4, .int .i64 a.m5, .int .i64 a.m6, .int .i64 a.m7, .int .i64 a.m8, .int .i64 a.tx, .int .i64 a.ty, .int .i64 a.tz]) ∧ Below w.heap.size w w'))
    (k3 : Hid (∀ w blk, Own blk [.int .i64 a.m0, .int .i64 a.m1, .int .i64 a.m2, .int .i64 a.m3, .int .i64 a.m4, .int .i64 a.m5, .int .i64 a.m6, .int .i64 a.m7, .int .i64 a.m8, .int .i64 a.tx, .int .i64 a.ty, .int .i64 a.tz, .int .i64 4294967296, .int .i64 0, .int .i64 0, .int .i64 0, .int .i64 4294967296, .int .i64 0, .int .i64 0, .int .i64 0, .int .i64 4294967296, .int .i64 0, .int .i64 0, .int .i64 0] w → Calls Try.prog 30 #[.slice (some ⟨blk, 0, none⟩) 2 2] w fun e w' => e = .returned (.agg #[.int .i64 a.m0, .int .i64 a.m1, .int .i64 a.m2, .int .i64 a.m3, .int .i64 a.m4, .int .i64 a.m5, .int .i64 a.m6, .int .i64 a.m7, .int .i64 a.m8, .int .i64 a.tx, .int .i64 a.ty, .int .i64 a.tz]) ∧ Below w.heap.size w w'))
    (k4 : Hid (∀ w, Calls Try.prog 30 #[.slice none 0 0] w fun e w' => e = .returned (.agg #[.int .i64 4294967296, .int .i64 0, .int .i64 0, .int .i64 0, .int .i64 4294967296, .int .i64 0, .int .i64 0, .int .i64 0, .int .i64 4294967296, .int .i64 0, .int .i64 0, .int .i64 0]) ∧ Below w.heap.size w w'))
    (k5 : Hid (∀ w, Calls Try.prog 17 #[(.agg #[.int .i64 a.tx, .int .i64 a.ty, .int .i64 a.tz])] w fun e w' => e = .returned (.agg #[.int .i64 4294967296, .int .i64 0, .int .i64 0, .int .i64 0, .int .i64 4294967296, .int .i64 0, .int .i64 0, .int .i64 0, .int .i64 4294967296, .int .i64 a.tx, .int .i64 a.ty, .int .i64 a.tz]) ∧ Below w.heap.size w w'))
    (k7 : Hid (∀ w, Calls Try.prog 26 #[(.agg #[.int .i64 4294967296, .int .i64 0, .int .i64 0, .int .i64 0, .int .i64 4294967296, .int .i64 0, .int .i64 0, .int .i64 0, .int .i64 4294967296, .int .i64 a.tx, .int .i64 a.ty, .int .i64 a.tz]), (.agg #[.int .i64 x, .int .i64 y, .int .i64 z])] w fun e w' => e = .returned (.agg #[.int .i64 X, .int .i64 Y, .int .i64 Z]) ∧ Below w.heap.size w w'))
    (k8 : Hid (∀ w blk, Own blk [.int .i64 x, .int .i64 y, .int .i64 z, .int .i64 a.tx, .int .i64 a.ty, .int .i64 a.tz] w → Calls Try.prog 36 #[.slice (some ⟨blk, 0, none⟩) 2 2] w fun e w' => e = .returned (.agg #[.int .i64 X, .int .i64 Y, .int .i64 Z]) ∧ Below w.heap.size w w'))
    (k9 : Hid (∀ w, Calls Try.prog 24 #[(.agg #[.int .i64 4294967296, .int .i64 0, .int .i64 0, .int .i64 0, .int .i64 4294967296, .int .i64 0, .int .i64 0, .int .i64 0, .int .i64 4294967296, .int .i64 a.tx, .int .i64 a.ty, .int .i64 a.tz]), (.agg #[.int .i64 x, .int .i64 y, .int .i64 z])] w fun e w' => e = .returned (.agg #[.int .i64 x, .int .i64 y, .int .i64 z]) ∧ Below w.heap.size w w'))
    (k6 : Hid (∀ w, Calls Try.prog 23 #[] w fun e w' => e = .returned (.bool true) ∧ Below w.heap.size w w')) :
    Calls Try.prog 7 #[(.agg #[.int .i64 a.m0, .int .i64 a.m1, .int .i64 a.m2, .int .i64 a.m3, .int .i64 a.m4, .int .i64 a.m5, .int .i64 a.m6, .int .i64 a.m7, .int .i64 a.m8, .int .i64 a.tx, .int .i64 a.ty, .int .i64 a.tz]), (.agg #[.int .i64 x, .int .i64 y, .int .i64 z])] w fun e w' => e = .returned (.bool true) ∧ Below w.heap.size w w' := by
  go_enter Try.func7, Try.ntmps7
  go_wp2_with (fail)
  obtain ⟨W0, hW⟩ : ∃ W0, W0 = ((w.alloc (.cells #[.int .i64 a.m0, .int .i64 a.m1, .int .i64 a.m2, .int .i64 a.m3, .int .i64 a.m4, .int .i64 a.m5, .int .i64 a.m6, .int .i64 a.m7, .int .i64 a.m8, .int .i64 a.tx, .int .i64 a.ty, .int .i64 a.tz] 29)).alloc (.cells #[.int .i64 x, .int .i64 y, .int .i64 z] 26)) := ⟨_, rfl⟩
  have hB0 : Below w.heap.size w W0 := hW ▸ (Below.al (Below.al (Below.refl _ _)))
  have HA : Hid (Own w.heap.size [.int .i64 a.m0, .int .i64 a.m1, .int .i64 a.m2, .int .i64 a.m3, .int .i64 a.m4, .int .i64 a.m5, .int .i64 a.m6, .int .i64 a.m7, .int .i64 a.m8, .int .i64 a.tx, .int .i64 a.ty, .int .i64 a.tz] W0) := Lib.hid (hW ▸ (Own.newAt (by simp)).alloc)
  have HV : Hid (Own (w.heap.size + 1) [.int .i64 x, .int .i64 y, .int .i64 z] W0) := Lib.hid (hW ▸ (Own.newAt (by simp)))
  rw [← hW]
  clear hW
  obtain ⟨V, eV⟩ : ∃ X, X = (w.heap.size + 1) := ⟨_, rfl⟩
  rw [← eV] at HV ⊢
  have Vw : w.heap.size ≤ V := by omega
  obtain ⟨A, eA⟩ : ∃ X, X = w.heap.size := ⟨_, rfl⟩
  rw [← eA] at HA ⊢
  have Aw : w.heap.size ≤ A := by omega
  have nAV : A ≠ V := by omega
  have nVA : V ≠ A := by omega
  clear eA eV
  have hBd : Below W0.heap.size W0 W0.drew := (Below.refl _ _).drew
  have SH : Hid (∀ w', Below W0.heap.size W0 w' → w'.cell? ⟨A, 0, none⟩ = some (.int .i64 a.m0) ∧ w'.cell? ⟨A, 1, none⟩ = some (.int .i64 a.m1) ∧ w'.cell? ⟨A, 2, none⟩ = some (.int .i64 a.m2) ∧ w'.cell? ⟨A, 3, none⟩ = some (.int .i64 a.m3) ∧ w'.cell? ⟨A, 4, none⟩ = some (.int .i64 a.m4) ∧ w'.cell? ⟨A, 5, none⟩ = some (.int .i64 a.m5) ∧ w'.cell? ⟨A, 6, none⟩ = some (.int .i64 a.m6) ∧ w'.cell? ⟨A, 7, none⟩ = some (.int .i64 a.m7) ∧ w'.cell? ⟨A, 8, none⟩ = some (.int .i64 a.m8) ∧ w'.cell? ⟨A, 9, none⟩ = some (.int .i64 a.tx) ∧ w'.cell? ⟨A, 10, none⟩ = some (.int .i64 a.ty) ∧ w'.cell? ⟨A, 11, none⟩ = some (.int .i64 a.tz) ∧ w'.cell? ⟨V, 0, none⟩ = some (.int .i64 x) ∧ w'.cell? ⟨V, 1, none⟩ = some (.int .i64 y) ∧ w'.cell? ⟨V, 2, none⟩ = some (.int .i64 z)) := Lib.hid fun w' hb => ⟨(HA.out.later hb).at 0 _ rfl, (HA.out.later hb).at 1 _ rfl, (HA.out.later hb).at 2 _ rfl, (HA.out.later hb).at 3 _ rfl, (HA.out.later hb).at 4 _ rfl, (HA.out.later hb).at 5 _ rfl, (HA.out.later hb).at 6 _ rfl, (HA.out.later hb).at 7 _ rfl, (HA.out.later hb).at 8 _ rfl, (HA.out.later hb).at 9 _ rfl, (HA.out.later hb).at 10 _ rfl, (HA.out.later hb).at 11 _ rfl, (HV.out.later hb).at 0 _ rfl, (HV.out.later hb).at 1 _ rfl, (HV.out.later hb).at 2 _ rfl⟩
  go_region_held3 (fun w' => w'.cell? ⟨A, 0, none⟩ = some (.int .i64 a.m0) ∧ w'.cell? ⟨A, 1, none⟩ = some (.int .i64 a.m1) ∧ w'.cell? ⟨A, 2, none⟩ = some (.int .i64 a.m2) ∧ w'.cell? ⟨A, 3, none⟩ = some (.int .i64 a.m3) ∧ w'.cell? ⟨A, 4, none⟩ = some (.int .i64 a.m4) ∧ w'.cell? ⟨A, 5, none⟩ = some (.int .i64 a.m5) ∧ w'.cell? ⟨A, 6, none⟩ = some (.int .i64 a.m6) ∧ w'.cell? ⟨A, 7, none⟩ = some (.int .i64 a.m7) ∧ w'.cell? ⟨A, 8, none⟩ = some (.int .i64 a.m8) ∧ w'.cell? ⟨A, 9, none⟩ = some (.int .i64 a.tx) ∧ w'.cell? ⟨A, 10, none⟩ = some (.int .i64 a.ty) ∧ w'.cell? ⟨A, 11, none⟩ = some (.int .i64 a.tz) ∧ w'.cell? ⟨V, 0, none⟩ = some (.int .i64 x) ∧ w'.cell? ⟨V, 1, none⟩ = some (.int .i64 y) ∧ w'.cell? ⟨V, 2, none⟩ = some (.int .i64 z)) (first | exact SH.out _ (by assumption) | exact SH.out _ (Below.al (by assumption))) (first | (go_at_call 15; (with_reducible refine (k0.out _).mono ?_); rintro e w1 ⟨rfl, h1⟩; have bw1 : Below W0.heap.size W0 w1 := Below.go hBd h1; clear h1) | (go_at_call 26; (with_reducible refine (k1.out _).mono ?_); rintro e w2 ⟨rfl, h1⟩; have bw2 : Below W0.heap.size W0 w2 := Below.go bw1 h1; clear h1) | (go_at_call 15; (with_reducible refine (k0.out _).mono ?_); rintro e w3 ⟨rfl, h1⟩; have bw3 : Below W0.heap.size W0 w3 := Below.go bw2 h1; clear h1) | (go_at_call 30; (with_reducible refine (k2.out _ _ (Own.newAt rfl)).mono ?_); rintro e w4 ⟨rfl, h1⟩; have bw4 : Below W0.heap.size W0 w4 := Below.go (Below.al bw3) h1; clear h1) | (go_at_call 15; (with_reducible refine (k0.out _).mono ?_); rintro e w5 ⟨rfl, h1⟩; have bw5 : Below W0.heap.size W0 w5 := Below.go bw4 h1; clear h1) | (go_at_call 30; (with_reducible refine (k3.out _ _ (Own.newAt rfl)).mono ?_); rintro e w6 ⟨rfl, h1⟩; have bw6 : Below W0.heap.size W0 w6 := Below.go (Below.al bw5) h1; clear h1) | (go_at_call 30; (with_reducible refine (k4.out _).mono ?_); rintro e w7 ⟨rfl, h1⟩; have bw7 : Below W0.heap.size W0 w7 := Below.go bw6 h1; clear h1) | (go_at_call 15; (with_reducible refine (k0.out _).mono ?_); rintro e w8 ⟨rfl, h1⟩; have bw8 : Below W0.heap.size W0 w8 := Below.go bw7 h1; clear h1))
  have hB8 : Below w.heap.size w w8 := Below.go hB0 bw8
  have HA2 := Lib.hid (HA.out.later bw8); have HV2 := Lib.hid (HV.out.later bw8)
  clear hB0 hBd bw1 bw2 bw3 bw4 bw5 bw6 bw7 bw8 HA HV SH k0 k1 k2 k3 k4
  go_wp2_with (fail)
  refine wp_region_fun 24 (by kernel_rfl) (by kernel_rfl) rfl (fun s b => ⟨#[(.agg #[.int .i64 a.m0, .int .i64 a.m1, .int .i64 a.m2, .int .i64 a.m3, .int .i64 a.m4, .int .i64 a.m5, .int .i64 a.m6, .int .i64 a.m7, .int .i64 a.m8, .int .i64 a.tx, .int .i64 a.ty, .int .i64 a.tz]), (.agg #[.int .i64 x, .int .i64 y, .int .i64 z]), .pointer (some ⟨A, 0, none⟩), .pointer (some ⟨V, 0, none⟩), s 4, (.agg #[.int .i64 4294967296, .int .i64 0, .int .i64 0, .int .i64 0, .int .i64 4294967296, .int .i64 0, .int .i64 0, .int .i64 0, .int .i64 4294967296, .int .i64 0, .int .i64 0, .int .i64 0]), (.agg #[.int .i64 x, .int .i64 y, .int .i64 z]), (.agg #[.int .i64 x, .int .i64 y, .int .i64 z]), (.agg #[.int .i64 x, .int .i64 y, .int .i64 z]), .bool false, .bool false, (.agg #[.int .i64 4294967296, .int .i64 0, .int .i64 0, .int .i64 0, .int .i64 4294967296, .int .i64 0, .int .i64 0, .int .i64 0, .int .i64 4294967296, .int .i64 0, .int .i64 0, .int .i64 0]), (.agg #[.int .i64 a.m0, .int .i64 a.m1, .int .i64 a.m2, .int .i64 a.m3, .int .i64 a.m4, .int .i64 a.m5, .int .i64 a.m6, .int .i64 a.m7, .int .i64 a.m8, .int .i64 a.tx, .int .i64 a.ty, .int .i64 a.tz]), .slice (some ⟨w3.heap.size, 0, none⟩) 2 2, (.agg #[.int .i64 a.m0, .int .i64 a.m1, .int .i64 a.m2, .int .i64 a.m3, .int .i64 a.m4, .int .i64 a.m5, .int .i64 a.m6, .int .i64 a.m7, .int .i64 a.m8, .int .i64 a.tx, .int .i64 a.ty, .int .i64 a.tz]), (.agg #[.int .i64 a.m0, .int .i64 a.m1, .int .i64 a.m2, .int .i64 a.m3, .int .i64 a.m4, .int .i64 a.m5, .int .i64 a.m6, .int .i64 a.m7, .int .i64 a.m8, .int .i64 a.tx, .int .i64 a.ty, .int .i64 a.tz]), .bool false, .bool false, .bool false, (.agg #[.int .i64 a.m0, .int .i64 a.m1, .int .i64 a.m2, .int .i64 a.m3, .int .i64 a.m4, .int .i64 a.m5, .int .i64 a.m6, .int .i64 a.m7, .int .i64 a.m8, .int .i64 a.tx, .int .i64 a.ty, .int .i64 a.tz]), (.agg #[.int .i64 4294967296, .int .i64 0, .int .i64 0, .int .i64 0, .int .i64 4294967296, .int .i64 0, .int .i64 0, .int .i64 0, .int .i64 4294967296, .int .i64 0, .int .i64 0, .int .i64 0]), .slice (some ⟨w5.heap.size, 0, none⟩) 2 2, (.agg #[.int .i64 a.m0, .int .i64 a.m1, .int .i64 a.m2, .int .i64 a.m3, .int .i64 a.m4, .int .i64 a.m5, .int .i64 a.m6, .int .i64 a.m7, .int .i64 a.m8, .int .i64 a.tx, .int .i64 a.ty, .int .i64 a.tz]), (.agg #[.int .i64 a.m0, .int .i64 a.m1, .int .i64 a.m2, .int .i64 a.m3, .int .i64 a.m4, .int .i64 a.m5, .int .i64 a.m6, .int .i64 a.m7, .int .i64 a.m8, .int .i64 a.tx, .int .i64 a.ty, .int .i64 a.tz]), .bool false, .bool false, .bool false, (.agg #[.int .i64 4294967296, .int .i64 0, .int .i64 0, .int .i64 0, .int .i64 4294967296, .int .i64 0, .int .i64 0, .int .i64 0, .int .i64 4294967296, .int .i64 0, .int .i64 0, .int .i64 0]), (.agg #[.int .i64 4294967296, .int .i64 0, .int .i64 0, .int .i64 0, .int .i64 4294967296, .int .i64 0, .int .i64 0, .int .i64 0, .int .i64 4294967296, .int .i64 0, .int .i64 0, .int .i64 0]), .bool false, .bool false, s 31, s 32, s 33, s 34, s 35, s 36, s 37, s 38, s 39, s 40, s 41, s 42, s 43, s 44, s 45, s 46, s 47, s 48, s 49, s 50, s 51, s 52, s 53], []⟩) (fun d s b w => (Below w8.heap.size w8 w) ∧ (d 0 = true → s 31 = .pointer (some ⟨A, 9, none⟩)) ∧ (d 1 = true → s 32 = (.agg #[.int .i64 a.tx, .int .i64 a.ty, .int .i64 a.tz])) ∧ (d 2 = true → s 33 = (.agg #[.int .i64 4294967296, .int .i64 0, .int .i64 0, .int .i64 0, .int .i64 4294967296, .int .i64 0, .int .i64 0, .int .i64 0, .int .i64 4294967296, .int .i64 a.tx, .int .i64 a.ty, .int .i64 a.tz])) ∧ (d 3 = true → s 34 = (.agg #[.int .i64 x, .int .i64 y, .int .i64 z])) ∧ (d 4 = true → s 35 = (.agg #[.int .i64 X, .int .i64 Y, .int .i64 Z])) ∧ (d 5 = true → s 36 = (.agg #[.int .i64 x, .int .i64 y, .int .i64 z])) ∧ (d 6 = true → s 37 = .pointer (some ⟨A, 9, none⟩)) ∧ (d 7 = true → s 38 = (.agg #[.int .i64 a.tx, .int .i64 a.ty, .int .i64 a.tz])) ∧ (d 8 = true → s 39 = .slice (some ⟨(b 8), 0, none⟩) 2 2 ∧ w8.heap.size ≤ b 8) ∧ (d 8 = true → Own (b 8) [.int .i64 x, .int .i64 y, .int .i64 z, .int .i64 a.tx, .int .i64 a.ty, .int .i64 a.tz] w) ∧ (d 9 = true → s 40 = (.agg #[.int .i64 X, .int .i64 Y, .int .i64 Z])) ∧ (d 10 = true → s 41 = .bool true) ∧ (d 11 = true → s 42 = .bool true) ∧ (d 12 = true → s 43 = .pointer (some ⟨A, 9, none⟩)) ∧ (d 13 = true → s 44 = (.agg #[.int .i64 a.tx, .int .i64 a.ty, .int .i64 a.tz])) ∧ (d 14 = true → s 45 = (.agg #[.int .i64 4294967296, .int .i64 0, .int .i64 0, .int .i64 0, .int .i64 4294967296, .int .i64 0, .int .i64 0, .int .i64 0, .int .i64 4294967296, .int .i64 a.tx, .int .i64 a.ty, .int .i64 a.tz])) ∧ (d 15 = true → s 46 = (.agg #[.int .i64 x, .int .i64 y, .int .i64 z])) ∧ (d 16 = true → s 47 = (.agg #[.int .i64 x, .int .i64 y, .int .i64 z])) ∧ (d 17 = true → s 48 = (.agg #[.int .i64 x, .int .i64 y, .int .i64 z])) ∧ (d 18 = true → s 49 = .bool true) ∧ (d 19 = true → s 50 = .bool true) ∧ (d 20 = true → s 51 = .bool true) ∧ (d 21 = true → s 52 = .bool true) ∧ (d 22 = true → s 53 = .bool true) ∧ (d 23 = true → s 4 = .bool true)) rfl ?h0y6 (?sty6 : StepsF _ _ _ _ 24 _ _ [0, 1, 2, 3, 4, 5, 6, 7, 8, 9, 10, 11, 12, 13, 14, 15, 16, 17, 18, 19, 20, 21, 22, 23]) ?dny6
  case h0y6 => exact ⟨Below.drew (Below.refl _ _), (fun h => nomatch h), (fun h => nomatch h), (fun h => nomatch h), (fun h => nomatch h), (fun h => nomatch h), (fun h => nomatch h), (fun h => nomatch h), (fun h => nomatch h), (fun h => nomatch h), (fun h => nomatch h), (fun h => nomatch h), (fun h => nomatch h), (fun h => nomatch h), (fun h => nomatch h), (fun h => nomatch h), (fun h => nomatch h), (fun h => nomatch h), (fun h => nomatch h), (fun h => nomatch h), (fun h => nomatch h), (fun h => nomatch h), (fun h => nomatch h), (fun h => nomatch h), (fun h => nomatch h), (fun h => nomatch h)⟩
  case sty6 =>
    refine StepsF.cons (o := _) rfl (ws := []) (by kernel_rfl) (by decide) (fun d s b w hF hd hw K hK => ?_) ?_
    · have hB : Below w8.heap.size w8 w := (hF.out.1)
      dsimp only
      go_simp
      exact hK.out (ups s 31 (.pointer (some ⟨A, 9, none⟩))) b _ ⟨hB, (fun _ => rfl), (hF.out.2.2.1), (hF.out.2.2.2.1), (hF.out.2.2.2.2.1), (hF.out.2.2.2.2.2.1), (hF.out.2.2.2.2.2.2.1), (hF.out.2.2.2.2.2.2.2.1), (hF.out.2.2.2.2.2.2.2.2.1), (hF.out.2.2.2.2.2.2.2.2.2.1), (hF.out.2.2.2.2.2.2.2.2.2.2.1), (hF.out.2.2.2.2.2.2.2.2.2.2.2.1), (hF.out.2.2.2.2.2.2.2.2.2.2.2.2.1), (hF.out.2.2.2.2.2.2.2.2.2.2.2.2.2.1), (hF.out.2.2.2.2.2.2.2.2.2.2.2.2.2.2.1), (hF.out.2.2.2.2.2.2.2.2.2.2.2.2.2.2.2.1), (hF.out.2.2.2.2.2.2.2.2.2.2.2.2.2.2.2.2.1), (hF.out.2.2.2.2.2.2.2.2.2.2.2.2.2.2.2.2.2.1), (hF.out.2.2.2.2.2.2.2.2.2.2.2.2.2.2.2.2.2.2.1), (hF.out.2.2.2.2.2.2.2.2.2.2.2.2.2.2.2.2.2.2.2.1), (hF.out.2.2.2.2.2.2.2.2.2.2.2.2.2.2.2.2.2.2.2.2.1), (hF.out.2.2.2.2.2.2.2.2.2.2.2.2.2.2.2.2.2.2.2.2.2.1), (hF.out.2.2.2.2.2.2.2.2.2.2.2.2.2.2.2.2.2.2.2.2.2.2.1), (hF.out.2.2.2.2.2.2.2.2.2.2.2.2.2.2.2.2.2.2.2.2.2.2.2.1), (hF.out.2.2.2.2.2.2.2.2.2.2.2.2.2.2.2.2.2.2.2.2.2.2.2.2.1), (hF.out.2.2.2.2.2.2.2.2.2.2.2.2.2.2.2.2.2.2.2.2.2.2.2.2.2)⟩
    refine StepsF.cons (o := _) rfl (ws := [0]) (by kernel_rfl) (by decide) (fun d s b w hF hd hw K hK => ?_) ?_
    · have hB : Below w8.heap.size w8 w := (hF.out.1)
      have e0 : s 31 = .pointer (some ⟨A, 9, none⟩) := (hF.out.2.1) (hw 0 (by decide))
      dsimp only
      have oa := HA2.out.later hB
      have a0 := oa.at 0 _ rfl
      have a1 := oa.at 1 _ rfl
      have a2 := oa.at 2 _ rfl
      have a3 := oa.at 3 _ rfl
      have a4 := oa.at 4 _ rfl
      have a5 := oa.at 5 _ rfl
      have a6 := oa.at 6 _ rfl
      have a7 := oa.at 7 _ rfl
      have a8 := oa.at 8 _ rfl
      have a9 := oa.at 9 _ rfl
      have a10 := oa.at 10 _ rfl
      have a11 := oa.at 11 _ rfl
      clear oa
      have ov := HV2.out.later hB
      have v0 := ov.at 0 _ rfl
      have v1 := ov.at 1 _ rfl
      have v2 := ov.at 2 _ rfl
      clear ov
      go_simp
      exact hK.out (ups (ups s 31 (.pointer (some ⟨A, 9, none⟩))) 32 ((.agg #[.int .i64 a.tx, .int .i64 a.ty, .int .i64 a.tz]))) b _ ⟨hB, (fun _ => rfl), (fun _ => rfl), (hF.out.2.2.2.1), (hF.out.2.2.2.2.1), (hF.out.2.2.2.2.2.1), (hF.out.2.2.2.2.2.2.1), (hF.out.2.2.2.2.2.2.2.1), (hF.out.2.2.2.2.2.2.2.2.1), (hF.out.2.2.2.2.2.2.2.2.2.1), (hF.out.2.2.2.2.2.2.2.2.2.2.1), (hF.out.2.2.2.2.2.2.2.2.2.2.2.1), (hF.out.2.2.2.2.2.2.2.2.2.2.2.2.1), (hF.out.2.2.2.2.2.2.2.2.2.2.2.2.2.1), (hF.out.2.2.2.2.2.2.2.2.2.2.2.2.2.2.1), (hF.out.2.2.2.2.2.2.2.2.2.2.2.2.2.2.2.1), (hF.out.2.2.2.2.2.2.2.2.2.2.2.2.2.2.2.2.1), (hF.out.2.2.2.2.2.2.2.2.2.2.2.2.2.2.2.2.2.1), (hF.out.2.2.2.2.2.2.2.2.2.2.2.2.2.2.2.2.2.2.1), (hF.out.2.2.2.2.2.2.2.2.2.2.2.2.2.2.2.2.2.2.2.1), (hF.out.2.2.2.2.2.2.2.2.2.2.2.2.2.2.2.2.2.2.2.2.1), (hF.out.2.2.2.2.2.2.2.2.2.2.2.2.2.2.2.2.2.2.2.2.2.1), (hF.out.2.2.2.2.2.2.2.2.2.2.2.2.2.2.2.2.2.2.2.2.2.2.1), (hF.out.2.2.2.2.2.2.2.2.2.2.2.2.2.2.2.2.2.2.2.2.2.2.2.1), (hF.out.2.2.2.2.2.2.2.2.2.2.2.2.2.2.2.2.2.2.2.2.2.2.2.2.1), (hF.out.2.2.2.2.2.2.2.2.2.2.2.2.2.2.2.2.2.2.2.2.2.2.2.2.2)⟩
    refine StepsF.cons (o := _) rfl (ws := [1]) (by kernel_rfl) (by decide) (fun d s b w hF hd hw K hK => ?_) ?_
    · have hB : Below w8.heap.size w8 w := (hF.out.1)
      have e1 : s 32 = (.agg #[.int .i64 a.tx, .int .i64 a.ty, .int .i64 a.tz]) := (hF.out.2.2.1) (hw 1 (by decide))
      dsimp only
      go_simp
      go_at_call 17
      refine (k5.out _).mono ?_
      rintro e w1 ⟨rfl, hb⟩
      exact hK.out (ups (ups s 32 ((.agg #[.int .i64 a.tx, .int .i64 a.ty, .int .i64 a.tz]))) 33 ((.agg #[.int .i64 4294967296, .int .i64 0, .int .i64 0, .int .i64 0, .int .i64 4294967296, .int .i64 0, .int .i64 0, .int .i64 0, .int .i64 4294967296, .int .i64 a.tx, .int .i64 a.ty, .int .i64 a.tz]))) b _ ⟨(Below.go hB hb), (hF.out.2.1), (fun _ => rfl), (fun _ => rfl), (hF.out.2.2.2.2.1), (hF.out.2.2.2.2.2.1), (hF.out.2.2.2.2.2.2.1), (hF.out.2.2.2.2.2.2.2.1), (hF.out.2.2.2.2.2.2.2.2.1), (hF.out.2.2.2.2.2.2.2.2.2.1), (fun h0 => ((hF.out.2.2.2.2.2.2.2.2.2.2.1) h0).later hb), (hF.out.2.2.2.2.2.2.2.2.2.2.2.1), (hF.out.2.2.2.2.2.2.2.2.2.2.2.2.1), (hF.out.2.2.2.2.2.2.2.2.2.2.2.2.2.1), (hF.out.2.2.2.2.2.2.2.2.2.2.2.2.2.2.1), (hF.out.2.2.2.2.2.2.2.2.2.2.2.2.2.2.2.1), (hF.out.2.2.2.2.2.2.2.2.2.2.2.2.2.2.2.2.1), (hF.out.2.2.2.2.2.2.2.2.2.2.2.2.2.2.2.2.2.1), (hF.out.2.2.2.2.2.2.2.2.2.2.2.2.2.2.2.2.2.2.1), (hF.out.2.2.2.2.2.2.2.2.2.2.2.2.2.2.2.2.2.2.2.1), (hF.out.2.2.2.2.2.2.2.2.2.2.2.2.2.2.2.2.2.2.2.2.1), (hF.out.2.2.2.2.2.2.2.2.2.2.2.2.2.2.2.2.2.2.2.2.2.1), (hF.out.2.2.2.2.2.2.2.2.2.2.2.2.2.2.2.2.2.2.2.2.2.2.1), (hF.out.2.2.2.2.2.2.2.2.2.2.2.2.2.2.2.2.2.2.2.2.2.2.2.1), (hF.out.2.2.2.2.2.2.2.2.2.2.2.2.2.2.2.2.2.2.2.2.2.2.2.2.1), (hF.out.2.2.2.2.2.2.2.2.2.2.2.2.2.2.2.2.2.2.2.2.2.2.2.2.2)⟩
    refine StepsF.cons (o := _) rfl (ws := []) (by kernel_rfl) (by decide) (fun d s b w hF hd hw K hK => ?_) ?_
    · have hB : Below w8.heap.size w8 w := (hF.out.1)
      dsimp only
      have oa := HA2.out.later hB
      have a0 := oa.at 0 _ rfl
      have a1 := oa.at 1 _ rfl
      have a2 := oa.at 2 _ rfl
      have a3 := oa.at 3 _ rfl
      have a4 := oa.at 4 _ rfl
      have a5 := oa.at 5 _ rfl
      have a6 := oa.at 6 _ rfl
      have a7 := oa.at 7 _ rfl
      have a8 := oa.at 8 _ rfl
      have a9 := oa.at 9 _ rfl
      have a10 := oa.at 10 _ rfl
      have a11 := oa.at 11 _ rfl
      clear oa
      have ov := HV2.out.later hB
      have v0 := ov.at 0 _ rfl
      have v1 := ov.at 1 _ rfl
      have v2 := ov.at 2 _ rfl
      clear ov
      go_simp
      exact hK.out (ups s 34 ((.agg #[.int .i64 x, .int .i64 y, .int .i64 z]))) b _ ⟨hB, (hF.out.2.1), (hF.out.2.2.1), (hF.out.2.2.2.1), (fun _ => rfl), (hF.out.2.2.2.2.2.1), (hF.out.2.2.2.2.2.2.1), (hF.out.2.2.2.2.2.2.2.1), (hF.out.2.2.2.2.2.2.2.2.1), (hF.out.2.2.2.2.2.2.2.2.2.1), (hF.out.2.2.2.2.2.2.2.2.2.2.1), (hF.out.2.2.2.2.2.2.2.2.2.2.2.1), (hF.out.2.2.2.2.2.2.2.2.2.2.2.2.1), (hF.out.2.2.2.2.2.2.2.2.2.2.2.2.2.1), (hF.out.2.2.2.2.2.2.2.2.2.2.2.2.2.2.1), (hF.out.2.2.2.2.2.2.2.2.2.2.2.2.2.2.2.1), (hF.out.2.2.2.2.2.2.2.2.2.2.2.2.2.2.2.2.1), (hF.out.2.2.2.2.2.2.2.2.2.2.2.2.2.2.2.2.2.1), (hF.out.2.2.2.2.2.2.2.2.2.2.2.2.2.2.2.2.2.2.1), (hF.out.2.2.2.2.2.2.2.2.2.2.2.2.2.2.2.2.2.2.2.1), (hF.out.2.2.2.2.2.2.2.2.2.2.2.2.2.2.2.2.2.2.2.2.1), (hF.out.2.2.2.2.2.2.2.2.2.2.2.2.2.2.2.2.2.2.2.2.2.1), (hF.out.2.2.2.2.2.2.2.2.2.2.2.2.2.2.2.2.2.2.2.2.2.2.1), (hF.out.2.2.2.2.2.2.2.2.2.2.2.2.2.2.2.2.2.2.2.2.2.2.2.1), (hF.out.2.2.2.2.2.2.2.2.2.2.2.2.2.2.2.2.2.2.2.2.2.2.2.2.1), (hF.out.2.2.2.2.2.2.2.2.2.2.2.2.2.2.2.2.2.2.2.2.2.2.2.2.2)⟩
    refine StepsF.cons (o := _) rfl (ws := [2, 3, 2]) (by kernel_rfl) (by decide) (fun d s b w hF hd hw K hK => ?_) ?_
    · have hB : Below w8.heap.size w8 w := (hF.out.1)
      have e2 : s 33 = (.agg #[.int .i64 4294967296, .int .i64 0, .int .i64 0, .int .i64 0, .int .i64 4294967296, .int .i64 0, .int .i64 0, .int .i64 0, .int .i64 4294967296, .int .i64 a.tx, .int .i64 a.ty, .int .i64 a.tz]) := (hF.out.2.2.2.1) (hw 2 (by decide))
      have e3 : s 34 = (.agg #[.int .i64 x, .int .i64 y, .int .i64 z]) := (hF.out.2.2.2.2.1) (hw 3 (by decide))
      dsimp only
      go_simp
      go_at_call 26
      refine (k7.out _).mono ?_
      rintro e w1 ⟨rfl, hb⟩
      exact hK.out (ups (ups (ups s 33 ((.agg #[.int .i64 4294967296, .int .i64 0, .int .i64 0, .int .i64 0, .int .i64 4294967296, .int .i64 0, .int .i64 0, .int .i64 0, .int .i64 4294967296, .int .i64 a.tx, .int .i64 a.ty, .int .i64 a.tz]))) 34 ((.agg #[.int .i64 x, .int .i64 y, .int .i64 z]))) 35 ((.agg #[.int .i64 X, .int .i64 Y, .int .i64 Z]))) b _ ⟨(Below.go hB hb), (hF.out.2.1), (hF.out.2.2.1), (fun _ => rfl), (fun _ => rfl), (fun _ => rfl), (hF.out.2.2.2.2.2.2.1), (hF.out.2.2.2.2.2.2.2.1), (hF.out.2.2.2.2.2.2.2.2.1), (hF.out.2.2.2.2.2.2.2.2.2.1), (fun h0 => ((hF.out.2.2.2.2.2.2.2.2.2.2.1) h0).later hb), (hF.out.2.2.2.2.2.2.2.2.2.2.2.1), (hF.out.2.2.2.2.2.2.2.2.2.2.2.2.1), (hF.out.2.2.2.2.2.2.2.2.2.2.2.2.2.1), (hF.out.2.2.2.2.2.2.2.2.2.2.2.2.2.2.1), (hF.out.2.2.2.2.2.2.2.2.2.2.2.2.2.2.2.1), (hF.out.2.2.2.2.2.2.2.2.2.2.2.2.2.2.2.2.1), (hF.out.2.2.2.2.2.2.2.2.2.2.2.2.2.2.2.2.2.1), (hF.out.2.2.2.2.2.2.2.2.2.2.2.2.2.2.2.2.2.2.1), (hF.out.2.2.2.2.2.2.2.2.2.2.2.2.2.2.2.2.2.2.2.1), (hF.out.2.2.2.2.2.2.2.2.2.2.2.2.2.2.2.2.2.2.2.2.1), (hF.out.2.2.2.2.2.2.2.2.2.2.2.2.2.2.2.2.2.2.2.2.2.1), (hF.out.2.2.2.2.2.2.2.2.2.2.2.2.2.2.2.2.2.2.2.2.2.2.1), (hF.out.2.2.2.2.2.2.2.2.2.2.2.2.2.2.2.2.2.2.2.2.2.2.2.1), (hF.out.2.2.2.2.2.2.2.2.2.2.2.2.2.2.2.2.2.2.2.2.2.2.2.2.1), (hF.out.2.2.2.2.2.2.2.2.2.2.2.2.2.2.2.2.2.2.2.2.2.2.2.2.2)⟩
    refine StepsF.cons (o := _) rfl (ws := []) (by kernel_rfl) (by decide) (fun d s b w hF hd hw K hK => ?_) ?_
    · have hB : Below w8.heap.size w8 w := (hF.out.1)
      dsimp only
      have oa := HA2.out.later hB
      have a0 := oa.at 0 _ rfl
      have a1 := oa.at 1 _ rfl
      have a2 := oa.at 2 _ rfl
      have a3 := oa.at 3 _ rfl
      have a4 := oa.at 4 _ rfl
      have a5 := oa.at 5 _ rfl
      have a6 := oa.at 6 _ rfl
      have a7 := oa.at 7 _ rfl
      have a8 := oa.at 8 _ rfl
      have a9 := oa.at 9 _ rfl
      have a10 := oa.at 10 _ rfl
      have a11 := oa.at 11 _ rfl
      clear oa
      have ov := HV2.out.later hB
      have v0 := ov.at 0 _ rfl
      have v1 := ov.at 1 _ rfl
      have v2 := ov.at 2 _ rfl
      clear ov
      go_simp
      exact hK.out (ups s 36 ((.agg #[.int .i64 x, .int .i64 y, .int .i64 z]))) b _ ⟨hB, (hF.out.2.1), (hF.out.2.2.1), (hF.out.2.2.2.1), (hF.out.2.2.2.2.1), (hF.out.2.2.2.2.2.1), (fun _ => rfl), (hF.out.2.2.2.2.2.2.2.1), (hF.out.2.2.2.2.2.2.2.2.1), (hF.out.2.2.2.2.2.2.2.2.2.1), (hF.out.2.2.2.2.2.2.2.2.2.2.1), (hF.out.2.2.2.2.2.2.2.2.2.2.2.1), (hF.out.2.2.2.2.2.2.2.2.2.2.2.2.1), (hF.out.2.2.2.2.2.2.2.2.2.2.2.2.2.1), (hF.out.2.2.2.2.2.2.2.2.2.2.2.2.2.2.1), (hF.out.2.2.2.2.2.2.2.2.2.2.2.2.2.2.2.1), (hF.out.2.2.2.2.2.2.2.2.2.2.2.2.2.2.2.2.1), (hF.out.2.2.2.2.2.2.2.2.2.2.2.2.2.2.2.2.2.1), (hF.out.2.2.2.2.2.2.2.2.2.2.2.2.2.2.2.2.2.2.1), (hF.out.2.2.2.2.2.2.2.2.2.2.2.2.2.2.2.2.2.2.2.1), (hF.out.2.2.2.2.2.2.2.2.2.2.2.2.2.2.2.2.2.2.2.2.1), (hF.out.2.2.2.2.2.2.2.2.2.2.2.2.2.2.2.2.2.2.2.2.2.1), (hF.out.2.2.2.2.2.2.2.2.2.2.2.2.2.2.2.2.2.2.2.2.2.2.1), (hF.out.2.2.2.2.2.2.2.2.2.2.2.2.2.2.2.2.2.2.2.2.2.2.2.1), (hF.out.2.2.2.2.2.2.2.2.2.2.2.2.2.2.2.2.2.2.2.2.2.2.2.2.1), (hF.out.2.2.2.2.2.2.2.2.2.2.2.2.2.2.2.2.2.2.2.2.2.2.2.2.2)⟩
    refine StepsF.cons (o := _) rfl (ws := []) (by kernel_rfl) (by decide) (fun d s b w hF hd hw K hK => ?_) ?_
    · have hB : Below w8.heap.size w8 w := (hF.out.1)
      dsimp only
      go_simp
      exact hK.out (ups s 37 (.pointer (some ⟨A, 9, none⟩))) b _ ⟨hB, (hF.out.2.1), (hF.out.2.2.1), (hF.out.2.2.2.1), (hF.out.2.2.2.2.1), (hF.out.2.2.2.2.2.1), (hF.out.2.2.2.2.2.2.1), (fun _ => rfl), (hF.out.2.2.2.2.2.2.2.2.1), (hF.out.2.2.2.2.2.2.2.2.2.1), (hF.out.2.2.2.2.2.2.2.2.2.2.1), (hF.out.2.2.2.2.2.2.2.2.2.2.2.1), (hF.out.2.2.2.2.2.2.2.2.2.2.2.2.1), (hF.out.2.2.2.2.2.2.2.2.2.2.2.2.2.1), (hF.out.2.2.2.2.2.2.2.2.2.2.2.2.2.2.1), (hF.out.2.2.2.2.2.2.2.2.2.2.2.2.2.2.2.1), (hF.out.2.2.2.2.2.2.2.2.2.2.2.2.2.2.2.2.1), (hF.out.2.2.2.2.2.2.2.2.2.2.2.2.2.2.2.2.2.1), (hF.out.2.2.2.2.2.2.2.2.2.2.2.2.2.2.2.2.2.2.1), (hF.out.2.2.2.2.2.2.2.2.2.2.2.2.2.2.2.2.2.2.2.1), (hF.out.2.2.2.2.2.2.2.2.2.2.2.2.2.2.2.2.2.2.2.2.1), (hF.out.2.2.2.2.2.2.2.2.2.2.2.2.2.2.2.2.2.2.2.2.2.1), (hF.out.2.2.2.2.2.2.2.2.2.2.2.2.2.2.2.2.2.2.2.2.2.2.1), (hF.out.2.2.2.2.2.2.2.2.2.2.2.2.2.2.2.2.2.2.2.2.2.2.2.1), (hF.out.2.2.2.2.2.2.2.2.2.2.2.2.2.2.2.2.2.2.2.2.2.2.2.2.1), (hF.out.2.2.2.2.2.2.2.2.2.2.2.2.2.2.2.2.2.2.2.2.2.2.2.2.2)⟩
    refine StepsF.cons (o := _) rfl (ws := [6]) (by kernel_rfl) (by decide) (fun d s b w hF hd hw K hK => ?_) ?_
    · have hB : Below w8.heap.size w8 w := (hF.out.1)
      have e6 : s 37 = .pointer (some ⟨A, 9, none⟩) := (hF.out.2.2.2.2.2.2.2.1) (hw 6 (by decide))
      dsimp only
      have oa := HA2.out.later hB
      have a0 := oa.at 0 _ rfl
      have a1 := oa.at 1 _ rfl
      have a2 := oa.at 2 _ rfl
      have a3 := oa.at 3 _ rfl
      have a4 := oa.at 4 _ rfl
      have a5 := oa.at 5 _ rfl
      have a6 := oa.at 6 _ rfl
      have a7 := oa.at 7 _ rfl
      have a8 := oa.at 8 _ rfl
      have a9 := oa.at 9 _ rfl
      have a10 := oa.at 10 _ rfl
      have a11 := oa.at 11 _ rfl
      clear oa
      have ov := HV2.out.later hB
      have v0 := ov.at 0 _ rfl
      have v1 := ov.at 1 _ rfl
      have v2 := ov.at 2 _ rfl
      clear ov
      go_simp
      exact hK.out (ups (ups s 37 (.pointer (some ⟨A, 9, none⟩))) 38 ((.agg #[.int .i64 a.tx, .int .i64 a.ty, .int .i64 a.tz]))) b _ ⟨hB, (hF.out.2.1), (hF.out.2.2.1), (hF.out.2.2.2.1), (hF.out.2.2.2.2.1), (hF.out.2.2.2.2.2.1), (hF.out.2.2.2.2.2.2.1), (fun _ => rfl), (fun _ => rfl), (hF.out.2.2.2.2.2.2.2.2.2.1), (hF.out.2.2.2.2.2.2.2.2.2.2.1), (hF.out.2.2.2.2.2.2.2.2.2.2.2.1), (hF.out.2.2.2.2.2.2.2.2.2.2.2.2.1), (hF.out.2.2.2.2.2.2.2.2.2.2.2.2.2.1), (hF.out.2.2.2.2.2.2.2.2.2.2.2.2.2.2.1), (hF.out.2.2.2.2.2.2.2.2.2.2.2.2.2.2.2.1), (hF.out.2.2.2.2.2.2.2.2.2.2.2.2.2.2.2.2.1), (hF.out.2.2.2.2.2.2.2.2.2.2.2.2.2.2.2.2.2.1), (hF.out.2.2.2.2.2.2.2.2.2.2.2.2.2.2.2.2.2.2.1), (hF.out.2.2.2.2.2.2.2.2.2.2.2.2.2.2.2.2.2.2.2.1), (hF.out.2.2.2.2.2.2.2.2.2.2.2.2.2.2.2.2.2.2.2.2.1), (hF.out.2.2.2.2.2.2.2.2.2.2.2.2.2.2.2.2.2.2.2.2.2.1), (hF.out.2.2.2.2.2.2.2.2.2.2.2.2.2.2.2.2.2.2.2.2.2.2.1), (hF.out.2.2.2.2.2.2.2.2.2.2.2.2.2.2.2.2.2.2.2.2.2.2.2.1), (hF.out.2.2.2.2.2.2.2.2.2.2.2.2.2.2.2.2.2.2.2.2.2.2.2.2.1), (hF.out.2.2.2.2.2.2.2.2.2.2.2.2.2.2.2.2.2.2.2.2.2.2.2.2.2)⟩
    refine StepsF.cons (o := _) rfl (ws := [5, 7]) (by kernel_rfl) (by decide) (fun d s b w hF hd hw K hK => ?_) ?_
    · have hB : Below w8.heap.size w8 w := (hF.out.1)
      have e5 : s 36 = (.agg #[.int .i64 x, .int .i64 y, .int .i64 z]) := (hF.out.2.2.2.2.2.2.1) (hw 5 (by decide))
      have e7 : s 38 = (.agg #[.int .i64 a.tx, .int .i64 a.ty, .int .i64 a.tz]) := (hF.out.2.2.2.2.2.2.2.2.1) (hw 7 (by decide))
      dsimp only
      go_simp
      exact hK.out (ups (ups (ups s 36 ((.agg #[.int .i64 x, .int .i64 y, .int .i64 z]))) 38 ((.agg #[.int .i64 a.tx, .int .i64 a.ty, .int .i64 a.tz]))) 39 (.slice (some ⟨w.heap.size, 0, none⟩) 2 2)) (ups b 8 w.heap.size) _ ⟨(hB.alloc hB.size _), (hF.out.2.1), (hF.out.2.2.1), (hF.out.2.2.2.1), (hF.out.2.2.2.2.1), (hF.out.2.2.2.2.2.1), (fun _ => rfl), (hF.out.2.2.2.2.2.2.2.1), (fun _ => rfl), (fun _ => ⟨rfl, hB.size⟩), (fun _ => Own.newAt rfl), (hF.out.2.2.2.2.2.2.2.2.2.2.2.1), (hF.out.2.2.2.2.2.2.2.2.2.2.2.2.1), (hF.out.2.2.2.2.2.2.2.2.2.2.2.2.2.1), (hF.out.2.2.2.2.2.2.2.2.2.2.2.2.2.2.1), (hF.out.2.2.2.2.2.2.2.2.2.2.2.2.2.2.2.1), (hF.out.2.2.2.2.2.2.2.2.2.2.2.2.2.2.2.2.1), (hF.out.2.2.2.2.2.2.2.2.2.2.2.2.2.2.2.2.2.1), (hF.out.2.2.2.2.2.2.2.2.2.2.2.2.2.2.2.2.2.2.1), (hF.out.2.2.2.2.2.2.2.2.2.2.2.2.2.2.2.2.2.2.2.1), (hF.out.2.2.2.2.2.2.2.2.2.2.2.2.2.2.2.2.2.2.2.2.1), (hF.out.2.2.2.2.2.2.2.2.2.2.2.2.2.2.2.2.2.2.2.2.2.1), (hF.out.2.2.2.2.2.2.2.2.2.2.2.2.2.2.2.2.2.2.2.2.2.2.1), (hF.out.2.2.2.2.2.2.2.2.2.2.2.2.2.2.2.2.2.2.2.2.2.2.2.1), (hF.out.2.2.2.2.2.2.2.2.2.2.2.2.2.2.2.2.2.2.2.2.2.2.2.2.1), (hF.out.2.2.2.2.2.2.2.2.2.2.2.2.2.2.2.2.2.2.2.2.2.2.2.2.2)⟩
    refine StepsF.cons (o := _) rfl (ws := [8, 4]) (by kernel_rfl) (by decide) (fun d s b w hF hd hw K hK => ?_) ?_
    · have hB : Below w8.heap.size w8 w := (hF.out.1)
      have e4 : s 35 = (.agg #[.int .i64 X, .int .i64 Y, .int .i64 Z]) := (hF.out.2.2.2.2.2.1) (hw 4 (by decide))
      have e8 : s 39 = .slice (some ⟨(b 8), 0, none⟩) 2 2 := ((hF.out.2.2.2.2.2.2.2.2.2.1) (hw 8 (by decide))).1
      have le8 : w8.heap.size ≤ b 8 := ((hF.out.2.2.2.2.2.2.2.2.2.1) (hw 8 (by decide))).2
      dsimp only
      go_simp
      go_at_call 36
      refine (k8.out _ _ ((hF.out.2.2.2.2.2.2.2.2.2.2.1) (hw 8 (by decide)))).mono ?_
      rintro e w1 ⟨rfl, hb⟩
      exact hK.out (ups (ups (ups s 35 ((.agg #[.int .i64 X, .int .i64 Y, .int .i64 Z]))) 39 (.slice (some ⟨(b 8), 0, none⟩) 2 2)) 40 ((.agg #[.int .i64 X, .int .i64 Y, .int .i64 Z]))) b _ ⟨(Below.go hB hb), (hF.out.2.1), (hF.out.2.2.1), (hF.out.2.2.2.1), (hF.out.2.2.2.2.1), (fun _ => rfl), (hF.out.2.2.2.2.2.2.1), (hF.out.2.2.2.2.2.2.2.1), (hF.out.2.2.2.2.2.2.2.2.1), (fun _ => ⟨rfl, le8⟩), (fun h0 => ((hF.out.2.2.2.2.2.2.2.2.2.2.1) h0).later hb), (fun _ => rfl), (hF.out.2.2.2.2.2.2.2.2.2.2.2.2.1), (hF.out.2.2.2.2.2.2.2.2.2.2.2.2.2.1), (hF.out.2.2.2.2.2.2.2.2.2.2.2.2.2.2.1), (hF.out.2.2.2.2.2.2.2.2.2.2.2.2.2.2.2.1), (hF.out.2.2.2.2.2.2.2.2.2.2.2.2.2.2.2.2.1), (hF.out.2.2.2.2.2.2.2.2.2.2.2.2.2.2.2.2.2.1), (hF.out.2.2.2.2.2.2.2.2.2.2.2.2.2.2.2.2.2.2.1), (hF.out.2.2.2.2.2.2.2.2.2.2.2.2.2.2.2.2.2.2.2.1), (hF.out.2.2.2.2.2.2.2.2.2.2.2.2.2.2.2.2.2.2.2.2.1), (hF.out.2.2.2.2.2.2.2.2.2.2.2.2.2.2.2.2.2.2.2.2.2.1), (hF.out.2.2.2.2.2.2.2.2.2.2.2.2.2.2.2.2.2.2.2.2.2.2.1), (hF.out.2.2.2.2.2.2.2.2.2.2.2.2.2.2.2.2.2.2.2.2.2.2.2.1), (hF.out.2.2.2.2.2.2.2.2.2.2.2.2.2.2.2.2.2.2.2.2.2.2.2.2.1), (hF.out.2.2.2.2.2.2.2.2.2.2.2.2.2.2.2.2.2.2.2.2.2.2.2.2.2)⟩
    refine StepsF.cons (o := _) rfl (ws := [4, 9]) (by kernel_rfl) (by decide) (fun d s b w hF hd hw K hK => ?_) ?_
    · have hB : Below w8.heap.size w8 w := (hF.out.1)
      have e4 : s 35 = (.agg #[.int .i64 X, .int .i64 Y, .int .i64 Z]) := (hF.out.2.2.2.2.2.1) (hw 4 (by decide))
      have e9 : s 40 = (.agg #[.int .i64 X, .int .i64 Y, .int .i64 Z]) := (hF.out.2.2.2.2.2.2.2.2.2.2.2.1) (hw 9 (by decide))
      dsimp only
      go_simp
      exact hK.out (ups (ups (ups s 35 ((.agg #[.int .i64 X, .int .i64 Y, .int .i64 Z]))) 40 ((.agg #[.int .i64 X, .int .i64 Y, .int .i64 Z]))) 41 (.bool true)) b _ ⟨hB, (hF.out.2.1), (hF.out.2.2.1), (hF.out.2.2.2.1), (hF.out.2.2.2.2.1), (fun _ => rfl), (hF.out.2.2.2.2.2.2.1), (hF.out.2.2.2.2.2.2.2.1), (hF.out.2.2.2.2.2.2.2.2.1), (hF.out.2.2.2.2.2.2.2.2.2.1), (hF.out.2.2.2.2.2.2.2.2.2.2.1), (fun _ => rfl), (fun _ => rfl), (hF.out.2.2.2.2.2.2.2.2.2.2.2.2.2.1), (hF.out.2.2.2.2.2.2.2.2.2.2.2.2.2.2.1), (hF.out.2.2.2.2.2.2.2.2.2.2.2.2.2.2.2.1), (hF.out.2.2.2.2.2.2.2.2.2.2.2.2.2.2.2.2.1), (hF.out.2.2.2.2.2.2.2.2.2.2.2.2.2.2.2.2.2.1), (hF.out.2.2.2.2.2.2.2.2.2.2.2.2.2.2.2.2.2.2.1), (hF.out.2.2.2.2.2.2.2.2.2.2.2.2.2.2.2.2.2.2.2.1), (hF.out.2.2.2.2.2.2.2.2.2.2.2.2.2.2.2.2.2.2.2.2.1), (hF.out.2.2.2.2.2.2.2.2.2.2.2.2.2.2.2.2.2.2.2.2.2.1), (hF.out.2.2.2.2.2.2.2.2.2.2.2.2.2.2.2.2.2.2.2.2.2.2.1), (hF.out.2.2.2.2.2.2.2.2.2.2.2.2.2.2.2.2.2.2.2.2.2.2.2.1), (hF.out.2.2.2.2.2.2.2.2.2.2.2.2.2.2.2.2.2.2.2.2.2.2.2.2.1), (hF.out.2.2.2.2.2.2.2.2.2.2.2.2.2.2.2.2.2.2.2.2.2.2.2.2.2)⟩
    refine StepsF.cons (o := _) rfl (ws := [10, 9]) (by kernel_rfl) (by decide) (fun d s b w hF hd hw K hK => ?_) ?_
    · have hB : Below w8.heap.size w8 w := (hF.out.1)
      have e9 : s 40 = (.agg #[.int .i64 X, .int .i64 Y, .int .i64 Z]) := (hF.out.2.2.2.2.2.2.2.2.2.2.2.1) (hw 9 (by decide))
      have e10 : s 41 = .bool true := (hF.out.2.2.2.2.2.2.2.2.2.2.2.2.1) (hw 10 (by decide))
      dsimp only
      go_simp
      exact hK.out (ups (ups (ups s 40 ((.agg #[.int .i64 X, .int .i64 Y, .int .i64 Z]))) 41 (.bool true)) 42 (.bool true)) b _ ⟨hB, (hF.out.2.1), (hF.out.2.2.1), (hF.out.2.2.2.1), (hF.out.2.2.2.2.1), (hF.out.2.2.2.2.2.1), (hF.out.2.2.2.2.2.2.1), (hF.out.2.2.2.2.2.2.2.1), (hF.out.2.2.2.2.2.2.2.2.1), (hF.out.2.2.2.2.2.2.2.2.2.1), (hF.out.2.2.2.2.2.2.2.2.2.2.1), (fun _ => rfl), (fun _ => rfl), (fun _ => rfl), (hF.out.2.2.2.2.2.2.2.2.2.2.2.2.2.2.1), (hF.out.2.2.2.2.2.2.2.2.2.2.2.2.2.2.2.1), (hF.out.2.2.2.2.2.2.2.2.2.2.2.2.2.2.2.2.1), (hF.out.2.2.2.2.2.2.2.2.2.2.2.2.2.2.2.2.2.1), (hF.out.2.2.2.2.2.2.2.2.2.2.2.2.2.2.2.2.2.2.1), (hF.out.2.2.2.2.2.2.2.2.2.2.2.2.2.2.2.2.2.2.2.1), (hF.out.2.2.2.2.2.2.2.2.2.2.2.2.2.2.2.2.2.2.2.2.1), (hF.out.2.2.2.2.2.2.2.2.2.2.2.2.2.2.2.2.2.2.2.2.2.1), (hF.out.2.2.2.2.2.2.2.2.2.2.2.2.2.2.2.2.2.2.2.2.2.2.1), (hF.out.2.2.2.2.2.2.2.2.2.2.2.2.2.2.2.2.2.2.2.2.2.2.2.1), (hF.out.2.2.2.2.2.2.2.2.2.2.2.2.2.2.2.2.2.2.2.2.2.2.2.2.1), (hF.out.2.2.2.2.2.2.2.2.2.2.2.2.2.2.2.2.2.2.2.2.2.2.2.2.2)⟩
    refine StepsF.cons (o := _) rfl (ws := [11]) (by kernel_rfl) (by decide) (fun d s b w hF hd hw K hK => ?_) ?_
    · have hB : Below w8.heap.size w8 w := (hF.out.1)
      have e11 : s 42 = .bool true := (hF.out.2.2.2.2.2.2.2.2.2.2.2.2.2.1) (hw 11 (by decide))
      dsimp only
      go_simp
      exact hK.out (ups (ups s 42 (.bool true)) 43 (.pointer (some ⟨A, 9, none⟩))) b _ ⟨hB, (hF.out.2.1), (hF.out.2.2.1), (hF.out.2.2.2.1), (hF.out.2.2.2.2.1), (hF.out.2.2.2.2.2.1), (hF.out.2.2.2.2.2.2.1), (hF.out.2.2.2.2.2.2.2.1), (hF.out.2.2.2.2.2.2.2.2.1), (hF.out.2.2.2.2.2.2.2.2.2.1), (hF.out.2.2.2.2.2.2.2.2.2.2.1), (hF.out.2.2.2.2.2.2.2.2.2.2.2.1), (hF.out.2.2.2.2.2.2.2.2.2.2.2.2.1), (fun _ => rfl), (fun _ => rfl), (hF.out.2.2.2.2.2.2.2.2.2.2.2.2.2.2.2.1), (hF.out.2.2.2.2.2.2.2.2.2.2.2.2.2.2.2.2.1), (hF.out.2.2.2.2.2.2.2.2.2.2.2.2.2.2.2.2.2.1), (hF.out.2.2.2.2.2.2.2.2.2.2.2.2.2.2.2.2.2.2.1), (hF.out.2.2.2.2.2.2.2.2.2.2.2.2.2.2.2.2.2.2.2.1), (hF.out.2.2.2.2.2.2.2.2.2.2.2.2.2.2.2.2.2.2.2.2.1), (hF.out.2.2.2.2.2.2.2.2.2.2.2.2.2.2.2.2.2.2.2.2.2.1), (hF.out.2.2.2.2.2.2.2.2.2.2.2.2.2.2.2.2.2.2.2.2.2.2.1), (hF.out.2.2.2.2.2.2.2.2.2.2.2.2.2.2.2.2.2.2.2.2.2.2.2.1), (hF.out.2.2.2.2.2.2.2.2.2.2.2.2.2.2.2.2.2.2.2.2.2.2.2.2.1), (hF.out.2.2.2.2.2.2.2.2.2.2.2.2.2.2.2.2.2.2.2.2.2.2.2.2.2)⟩
    refine StepsF.cons (o := _) rfl (ws := [12, 11]) (by kernel_rfl) (by decide) (fun d s b w hF hd hw K hK => ?_) ?_
    · have hB : Below w8.heap.size w8 w := (hF.out.1)
      have e11 : s 42 = .bool true := (hF.out.2.2.2.2.2.2.2.2.2.2.2.2.2.1) (hw 11 (by decide))
      have e12 : s 43 = .pointer (some ⟨A, 9, none⟩) := (hF.out.2.2.2.2.2.2.2.2.2.2.2.2.2.2.1) (hw 12 (by decide))
      dsimp only
      have oa := HA2.out.later hB
      have a0 := oa.at 0 _ rfl
      have a1 := oa.at 1 _ rfl
      have a2 := oa.at 2 _ rfl
      have a3 := oa.at 3 _ rfl
      have a4 := oa.at 4 _ rfl
      have a5 := oa.at 5 _ rfl
      have a6 := oa.at 6 _ rfl
      have a7 := oa.at 7 _ rfl
      have a8 := oa.at 8 _ rfl
      have a9 := oa.at 9 _ rfl
      have a10 := oa.at 10 _ rfl
      have a11 := oa.at 11 _ rfl
      clear oa
      have ov := HV2.out.later hB
      have v0 := ov.at 0 _ rfl
      have v1 := ov.at 1 _ rfl
      have v2 := ov.at 2 _ rfl
      clear ov
      go_simp
      exact hK.out (ups (ups (ups s 42 (.bool true)) 43 (.pointer (some ⟨A, 9, none⟩))) 44 ((.agg #[.int .i64 a.tx, .int .i64 a.ty, .int .i64 a.tz]))) b _ ⟨hB, (hF.out.2.1), (hF.out.2.2.1), (hF.out.2.2.2.1), (hF.out.2.2.2.2.1), (hF.out.2.2.2.2.2.1), (hF.out.2.2.2.2.2.2.1), (hF.out.2.2.2.2.2.2.2.1), (hF.out.2.2.2.2.2.2.2.2.1), (hF.out.2.2.2.2.2.2.2.2.2.1), (hF.out.2.2.2.2.2.2.2.2.2.2.1), (hF.out.2.2.2.2.2.2.2.2.2.2.2.1), (hF.out.2.2.2.2.2.2.2.2.2.2.2.2.1), (fun _ => rfl), (fun _ => rfl), (fun _ => rfl), (hF.out.2.2.2.2.2.2.2.2.2.2.2.2.2.2.2.2.1), (hF.out.2.2.2.2.2.2.2.2.2.2.2.2.2.2.2.2.2.1), (hF.out.2.2.2.2.2.2.2.2.2.2.2.2.2.2.2.2.2.2.1), (hF.out.2.2.2.2.2.2.2.2.2.2.2.2.2.2.2.2.2.2.2.1), (hF.out.2.2.2.2.2.2.2.2.2.2.2.2.2.2.2.2.2.2.2.2.1), (hF.out.2.2.2.2.2.2.2.2.2.2.2.2.2.2.2.2.2.2.2.2.2.1), (hF.out.2.2.2.2.2.2.2.2.2.2.2.2.2.2.2.2.2.2.2.2.2.2.1), (hF.out.2.2.2.2.2.2.2.2.2.2.2.2.2.2.2.2.2.2.2.2.2.2.2.1), (hF.out.2.2.2.2.2.2.2.2.2.2.2.2.2.2.2.2.2.2.2.2.2.2.2.2.1), (hF.out.2.2.2.2.2.2.2.2.2.2.2.2.2.2.2.2.2.2.2.2.2.2.2.2.2)⟩
    refine StepsF.cons (o := _) rfl (ws := [13, 11, 11]) (by kernel_rfl) (by decide) (fun d s b w hF hd hw K hK => ?_) ?_
    · have hB : Below w8.heap.size w8 w := (hF.out.1)
      have e11 : s 42 = .bool true := (hF.out.2.2.2.2.2.2.2.2.2.2.2.2.2.1) (hw 11 (by decide))
      have e13 : s 44 = (.agg #[.int .i64 a.tx, .int .i64 a.ty, .int .i64 a.tz]) := (hF.out.2.2.2.2.2.2.2.2.2.2.2.2.2.2.2.1) (hw 13 (by decide))
      dsimp only
      go_simp
      go_at_call 17
      refine (k5.out _).mono ?_
      rintro e w1 ⟨rfl, hb⟩
      exact hK.out (ups (ups (ups s 42 (.bool true)) 44 ((.agg #[.int .i64 a.tx, .int .i64 a.ty, .int .i64 a.tz]))) 45 ((.agg #[.int .i64 4294967296, .int .i64 0, .int .i64 0, .int .i64 0, .int .i64 4294967296, .int .i64 0, .int .i64 0, .int .i64 0, .int .i64 4294967296, .int .i64 a.tx, .int .i64 a.ty, .int .i64 a.tz]))) b _ ⟨(Below.go hB hb), (hF.out.2.1), (hF.out.2.2.1), (hF.out.2.2.2.1), (hF.out.2.2.2.2.1), (hF.out.2.2.2.2.2.1), (hF.out.2.2.2.2.2.2.1), (hF.out.2.2.2.2.2.2.2.1), (hF.out.2.2.2.2.2.2.2.2.1), (hF.out.2.2.2.2.2.2.2.2.2.1), (fun h0 => ((hF.out.2.2.2.2.2.2.2.2.2.2.1) h0).later hb), (hF.out.2.2.2.2.2.2.2.2.2.2.2.1), (hF.out.2.2.2.2.2.2.2.2.2.2.2.2.1), (fun _ => rfl), (hF.out.2.2.2.2.2.2.2.2.2.2.2.2.2.2.1), (fun _ => rfl), (fun _ => rfl), (hF.out.2.2.2.2.2.2.2.2.2.2.2.2.2.2.2.2.2.1), (hF.out.2.2.2.2.2.2.2.2.2.2.2.2.2.2.2.2.2.2.1), (hF.out.2.2.2.2.2.2.2.2.2.2.2.2.2.2.2.2.2.2.2.1), (hF.out.2.2.2.2.2.2.2.2.2.2.2.2.2.2.2.2.2.2.2.2.1), (hF.out.2.2.2.2.2.2.2.2.2.2.2.2.2.2.2.2.2.2.2.2.2.1), (hF.out.2.2.2.2.2.2.2.2.2.2.2.2.2.2.2.2.2.2.2.2.2.2.1), (hF.out.2.2.2.2.2.2.2.2.2.2.2.2.2.2.2.2.2.2.2.2.2.2.2.1), (hF.out.2.2.2.2.2.2.2.2.2.2.2.2.2.2.2.2.2.2.2.2.2.2.2.2.1), (hF.out.2.2.2.2.2.2.2.2.2.2.2.2.2.2.2.2.2.2.2.2.2.2.2.2.2)⟩
    refine StepsF.cons (o := _) rfl (ws := [11]) (by kernel_rfl) (by decide) (fun d s b w hF hd hw K hK => ?_) ?_
    · have hB : Below w8.heap.size w8 w := (hF.out.1)
      have e11 : s 42 = .bool true := (hF.out.2.2.2.2.2.2.2.2.2.2.2.2.2.1) (hw 11 (by decide))
      dsimp only
      have oa := HA2.out.later hB
      have a0 := oa.at 0 _ rfl
      have a1 := oa.at 1 _ rfl
      have a2 := oa.at 2 _ rfl
      have a3 := oa.at 3 _ rfl
      have a4 := oa.at 4 _ rfl
      have a5 := oa.at 5 _ rfl
      have a6 := oa.at 6 _ rfl
      have a7 := oa.at 7 _ rfl
      have a8 := oa.at 8 _ rfl
      have a9 := oa.at 9 _ rfl
      have a10 := oa.at 10 _ rfl
      have a11 := oa.at 11 _ rfl
      clear oa
      have ov := HV2.out.later hB
      have v0 := ov.at 0 _ rfl
      have v1 := ov.at 1 _ rfl
      have v2 := ov.at 2 _ rfl
      clear ov
      go_simp
      exact hK.out (ups (ups s 42 (.bool true)) 46 ((.agg #[.int .i64 x, .int .i64 y, .int .i64 z]))) b _ ⟨hB, (hF.out.2.1), (hF.out.2.2.1), (hF.out.2.2.2.1), (hF.out.2.2.2.2.1), (hF.out.2.2.2.2.2.1), (hF.out.2.2.2.2.2.2.1), (hF.out.2.2.2.2.2.2.2.1), (hF.out.2.2.2.2.2.2.2.2.1), (hF.out.2.2.2.2.2.2.2.2.2.1), (hF.out.2.2.2.2.2.2.2.2.2.2.1), (hF.out.2.2.2.2.2.2.2.2.2.2.2.1), (hF.out.2.2.2.2.2.2.2.2.2.2.2.2.1), (fun _ => rfl), (hF.out.2.2.2.2.2.2.2.2.2.2.2.2.2.2.1), (hF.out.2.2.2.2.2.2.2.2.2.2.2.2.2.2.2.1), (hF.out.2.2.2.2.2.2.2.2.2.2.2.2.2.2.2.2.1), (fun _ => rfl), (hF.out.2.2.2.2.2.2.2.2.2.2.2.2.2.2.2.2.2.2.1), (hF.out.2.2.2.2.2.2.2.2.2.2.2.2.2.2.2.2.2.2.2.1), (hF.out.2.2.2.2.2.2.2.2.2.2.2.2.2.2.2.2.2.2.2.2.1), (hF.out.2.2.2.2.2.2.2.2.2.2.2.2.2.2.2.2.2.2.2.2.2.1), (hF.out.2.2.2.2.2.2.2.2.2.2.2.2.2.2.2.2.2.2.2.2.2.2.1), (hF.out.2.2.2.2.2.2.2.2.2.2.2.2.2.2.2.2.2.2.2.2.2.2.2.1), (hF.out.2.2.2.2.2.2.2.2.2.2.2.2.2.2.2.2.2.2.2.2.2.2.2.2.1), (hF.out.2.2.2.2.2.2.2.2.2.2.2.2.2.2.2.2.2.2.2.2.2.2.2.2.2)⟩
    refine StepsF.cons (o := _) rfl (ws := [14, 15, 14, 11]) (by kernel_rfl) (by decide) (fun d s b w hF hd hw K hK => ?_) ?_
    · have hB : Below w8.heap.size w8 w := (hF.out.1)
      have e11 : s 42 = .bool true := (hF.out.2.2.2.2.2.2.2.2.2.2.2.2.2.1) (hw 11 (by decide))
      have e14 : s 45 = (.agg #[.int .i64 4294967296, .int .i64 0, .int .i64 0, .int .i64 0, .int .i64 4294967296, .int .i64 0, .int .i64 0, .int .i64 0, .int .i64 4294967296, .int .i64 a.tx, .int .i64 a.ty, .int .i64 a.tz]) := (hF.out.2.2.2.2.2.2.2.2.2.2.2.2.2.2.2.2.1) (hw 14 (by decide))
      have e15 : s 46 = (.agg #[.int .i64 x, .int .i64 y, .int .i64 z]) := (hF.out.2.2.2.2.2.2.2.2.2.2.2.2.2.2.2.2.2.1) (hw 15 (by decide))
      dsimp only
      go_simp
      go_at_call 24
      refine (k9.out _).mono ?_
      rintro e w1 ⟨rfl, hb⟩
      exact hK.out (ups (ups (ups (ups s 42 (.bool true)) 45 ((.agg #[.int .i64 4294967296, .int .i64 0, .int .i64 0, .int .i64 0, .int .i64 4294967296, .int .i64 0, .int .i64 0, .int .i64 0, .int .i64 4294967296, .int .i64 a.tx, .int .i64 a.ty, .int .i64 a.tz]))) 46 ((.agg #[.int .i64 x, .int .i64 y, .int .i64 z]))) 47 ((.agg #[.int .i64 x, .int .i64 y, .int .i64 z]))) b _ ⟨(Below.go hB hb), (hF.out.2.1), (hF.out.2.2.1), (hF.out.2.2.2.1), (hF.out.2.2.2.2.1), (hF.out.2.2.2.2.2.1), (hF.out.2.2.2.2.2.2.1), (hF.out.2.2.2.2.2.2.2.1), (hF.out.2.2.2.2.2.2.2.2.1), (hF.out.2.2.2.2.2.2.2.2.2.1), (fun h0 => ((hF.out.2.2.2.2.2.2.2.2.2.2.1) h0).later hb), (hF.out.2.2.2.2.2.2.2.2.2.2.2.1), (hF.out.2.2.2.2.2.2.2.2.2.2.2.2.1), (fun _ => rfl), (hF.out.2.2.2.2.2.2.2.2.2.2.2.2.2.2.1), (hF.out.2.2.2.2.2.2.2.2.2.2.2.2.2.2.2.1), (fun _ => rfl), (fun _ => rfl), (fun _ => rfl), (hF.out.2.2.2.2.2.2.2.2.2.2.2.2.2.2.2.2.2.2.2.1), (hF.out.2.2.2.2.2.2.2.2.2.2.2.2.2.2.2.2.2.2.2.2.1), (hF.out.2.2.2.2.2.2.2.2.2.2.2.2.2.2.2.2.2.2.2.2.2.1), (hF.out.2.2.2.2.2.2.2.2.2.2.2.2.2.2.2.2.2.2.2.2.2.2.1), (hF.out.2.2.2.2.2.2.2.2.2.2.2.2.2.2.2.2.2.2.2.2.2.2.2.1), (hF.out.2.2.2.2.2.2.2.2.2.2.2.2.2.2.2.2.2.2.2.2.2.2.2.2.1), (hF.out.2.2.2.2.2.2.2.2.2.2.2.2.2.2.2.2.2.2.2.2.2.2.2.2.2)⟩
    refine StepsF.cons (o := _) rfl (ws := [11]) (by kernel_rfl) (by decide) (fun d s b w hF hd hw K hK => ?_) ?_
    · have hB : Below w8.heap.size w8 w := (hF.out.1)
      have e11 : s 42 = .bool true := (hF.out.2.2.2.2.2.2.2.2.2.2.2.2.2.1) (hw 11 (by decide))
      dsimp only
      have oa := HA2.out.later hB
      have a0 := oa.at 0 _ rfl
      have a1 := oa.at 1 _ rfl
      have a2 := oa.at 2 _ rfl
      have a3 := oa.at 3 _ rfl
      have a4 := oa.at 4 _ rfl
      have a5 := oa.at 5 _ rfl
      have a6 := oa.at 6 _ rfl
      have a7 := oa.at 7 _ rfl
      have a8 := oa.at 8 _ rfl
      have a9 := oa.at 9 _ rfl
      have a10 := oa.at 10 _ rfl
      have a11 := oa.at 11 _ rfl
      clear oa
      have ov := HV2.out.later hB
      have v0 := ov.at 0 _ rfl
      have v1 := ov.at 1 _ rfl
      have v2 := ov.at 2 _ rfl
      clear ov
      go_simp
      exact hK.out (ups (ups s 42 (.bool true)) 48 ((.agg #[.int .i64 x, .int .i64 y, .int .i64 z]))) b _ ⟨hB, (hF.out.2.1), (hF.out.2.2.1), (hF.out.2.2.2.1), (hF.out.2.2.2.2.1), (hF.out.2.2.2.2.2.1), (hF.out.2.2.2.2.2.2.1), (hF.out.2.2.2.2.2.2.2.1), (hF.out.2.2.2.2.2.2.2.2.1), (hF.out.2.2.2.2.2.2.2.2.2.1), (hF.out.2.2.2.2.2.2.2.2.2.2.1), (hF.out.2.2.2.2.2.2.2.2.2.2.2.1), (hF.out.2.2.2.2.2.2.2.2.2.2.2.2.1), (fun _ => rfl), (hF.out.2.2.2.2.2.2.2.2.2.2.2.2.2.2.1), (hF.out.2.2.2.2.2.2.2.2.2.2.2.2.2.2.2.1), (hF.out.2.2.2.2.2.2.2.2.2.2.2.2.2.2.2.2.1), (hF.out.2.2.2.2.2.2.2.2.2.2.2.2.2.2.2.2.2.1), (hF.out.2.2.2.2.2.2.2.2.2.2.2.2.2.2.2.2.2.2.1), (fun _ => rfl), (hF.out.2.2.2.2.2.2.2.2.2.2.2.2.2.2.2.2.2.2.2.2.1), (hF.out.2.2.2.2.2.2.2.2.2.2.2.2.2.2.2.2.2.2.2.2.2.1), (hF.out.2.2.2.2.2.2.2.2.2.2.2.2.2.2.2.2.2.2.2.2.2.2.1), (hF.out.2.2.2.2.2.2.2.2.2.2.2.2.2.2.2.2.2.2.2.2.2.2.2.1), (hF.out.2.2.2.2.2.2.2.2.2.2.2.2.2.2.2.2.2.2.2.2.2.2.2.2.1), (hF.out.2.2.2.2.2.2.2.2.2.2.2.2.2.2.2.2.2.2.2.2.2.2.2.2.2)⟩
    refine StepsF.cons (o := _) rfl (ws := [16, 17, 11]) (by kernel_rfl) (by decide) (fun d s b w hF hd hw K hK => ?_) ?_
    · have hB : Below w8.heap.size w8 w := (hF.out.1)
      have e11 : s 42 = .bool true := (hF.out.2.2.2.2.2.2.2.2.2.2.2.2.2.1) (hw 11 (by decide))
      have e16 : s 47 = (.agg #[.int .i64 x, .int .i64 y, .int .i64 z]) := (hF.out.2.2.2.2.2.2.2.2.2.2.2.2.2.2.2.2.2.2.1) (hw 16 (by decide))
      have e17 : s 48 = (.agg #[.int .i64 x, .int .i64 y, .int .i64 z]) := (hF.out.2.2.2.2.2.2.2.2.2.2.2.2.2.2.2.2.2.2.2.1) (hw 17 (by decide))
      dsimp only
      go_simp
      exact hK.out (ups (ups (ups (ups s 42 (.bool true)) 47 ((.agg #[.int .i64 x, .int .i64 y, .int .i64 z]))) 48 ((.agg #[.int .i64 x, .int .i64 y, .int .i64 z]))) 49 (.bool true)) b _ ⟨hB, (hF.out.2.1), (hF.out.2.2.1), (hF.out.2.2.2.1), (hF.out.2.2.2.2.1), (hF.out.2.2.2.2.2.1), (hF.out.2.2.2.2.2.2.1), (hF.out.2.2.2.2.2.2.2.1), (hF.out.2.2.2.2.2.2.2.2.1), (hF.out.2.2.2.2.2.2.2.2.2.1), (hF.out.2.2.2.2.2.2.2.2.2.2.1), (hF.out.2.2.2.2.2.2.2.2.2.2.2.1), (hF.out.2.2.2.2.2.2.2.2.2.2.2.2.1), (fun _ => rfl), (hF.out.2.2.2.2.2.2.2.2.2.2.2.2.2.2.1), (hF.out.2.2.2.2.2.2.2.2.2.2.2.2.2.2.2.1), (hF.out.2.2.2.2.2.2.2.2.2.2.2.2.2.2.2.2.1), (hF.out.2.2.2.2.2.2.2.2.2.2.2.2.2.2.2.2.2.1), (fun _ => rfl), (fun _ => rfl), (fun _ => rfl), (hF.out.2.2.2.2.2.2.2.2.2.2.2.2.2.2.2.2.2.2.2.2.2.1), (hF.out.2.2.2.2.2.2.2.2.2.2.2.2.2.2.2.2.2.2.2.2.2.2.1), (hF.out.2.2.2.2.2.2.2.2.2.2.2.2.2.2.2.2.2.2.2.2.2.2.2.1), (hF.out.2.2.2.2.2.2.2.2.2.2.2.2.2.2.2.2.2.2.2.2.2.2.2.2.1), (hF.out.2.2.2.2.2.2.2.2.2.2.2.2.2.2.2.2.2.2.2.2.2.2.2.2.2)⟩
    refine StepsF.cons (o := _) rfl (ws := [11, 18]) (by kernel_rfl) (by decide) (fun d s b w hF hd hw K hK => ?_) ?_
    · have hB : Below w8.heap.size w8 w := (hF.out.1)
      have e11 : s 42 = .bool true := (hF.out.2.2.2.2.2.2.2.2.2.2.2.2.2.1) (hw 11 (by decide))
      have e18 : s 49 = .bool true := (hF.out.2.2.2.2.2.2.2.2.2.2.2.2.2.2.2.2.2.2.2.2.1) (hw 18 (by decide))
      dsimp only
      go_simp
      exact hK.out (ups (ups (ups s 42 (.bool true)) 49 (.bool true)) 50 (.bool true)) b _ ⟨hB, (hF.out.2.1), (hF.out.2.2.1), (hF.out.2.2.2.1), (hF.out.2.2.2.2.1), (hF.out.2.2.2.2.2.1), (hF.out.2.2.2.2.2.2.1), (hF.out.2.2.2.2.2.2.2.1), (hF.out.2.2.2.2.2.2.2.2.1), (hF.out.2.2.2.2.2.2.2.2.2.1), (hF.out.2.2.2.2.2.2.2.2.2.2.1), (hF.out.2.2.2.2.2.2.2.2.2.2.2.1), (hF.out.2.2.2.2.2.2.2.2.2.2.2.2.1), (fun _ => rfl), (hF.out.2.2.2.2.2.2.2.2.2.2.2.2.2.2.1), (hF.out.2.2.2.2.2.2.2.2.2.2.2.2.2.2.2.1), (hF.out.2.2.2.2.2.2.2.2.2.2.2.2.2.2.2.2.1), (hF.out.2.2.2.2.2.2.2.2.2.2.2.2.2.2.2.2.2.1), (hF.out.2.2.2.2.2.2.2.2.2.2.2.2.2.2.2.2.2.2.1), (hF.out.2.2.2.2.2.2.2.2.2.2.2.2.2.2.2.2.2.2.2.1), (fun _ => rfl), (fun _ => rfl), (hF.out.2.2.2.2.2.2.2.2.2.2.2.2.2.2.2.2.2.2.2.2.2.2.1), (hF.out.2.2.2.2.2.2.2.2.2.2.2.2.2.2.2.2.2.2.2.2.2.2.2.1), (hF.out.2.2.2.2.2.2.2.2.2.2.2.2.2.2.2.2.2.2.2.2.2.2.2.2.1), (hF.out.2.2.2.2.2.2.2.2.2.2.2.2.2.2.2.2.2.2.2.2.2.2.2.2.2)⟩
    refine StepsF.cons (o := _) rfl (ws := [19, 16]) (by kernel_rfl) (by decide) (fun d s b w hF hd hw K hK => ?_) ?_
    · have hB : Below w8.heap.size w8 w := (hF.out.1)
      have e16 : s 47 = (.agg #[.int .i64 x, .int .i64 y, .int .i64 z]) := (hF.out.2.2.2.2.2.2.2.2.2.2.2.2.2.2.2.2.2.2.1) (hw 16 (by decide))
      have e19 : s 50 = .bool true := (hF.out.2.2.2.2.2.2.2.2.2.2.2.2.2.2.2.2.2.2.2.2.2.1) (hw 19 (by decide))
      dsimp only
      go_simp
      exact hK.out (ups (ups (ups s 47 ((.agg #[.int .i64 x, .int .i64 y, .int .i64 z]))) 50 (.bool true)) 51 (.bool true)) b _ ⟨hB, (hF.out.2.1), (hF.out.2.2.1), (hF.out.2.2.2.1), (hF.out.2.2.2.2.1), (hF.out.2.2.2.2.2.1), (hF.out.2.2.2.2.2.2.1), (hF.out.2.2.2.2.2.2.2.1), (hF.out.2.2.2.2.2.2.2.2.1), (hF.out.2.2.2.2.2.2.2.2.2.1), (hF.out.2.2.2.2.2.2.2.2.2.2.1), (hF.out.2.2.2.2.2.2.2.2.2.2.2.1), (hF.out.2.2.2.2.2.2.2.2.2.2.2.2.1), (hF.out.2.2.2.2.2.2.2.2.2.2.2.2.2.1), (hF.out.2.2.2.2.2.2.2.2.2.2.2.2.2.2.1), (hF.out.2.2.2.2.2.2.2.2.2.2.2.2.2.2.2.1), (hF.out.2.2.2.2.2.2.2.2.2.2.2.2.2.2.2.2.1), (hF.out.2.2.2.2.2.2.2.2.2.2.2.2.2.2.2.2.2.1), (fun _ => rfl), (hF.out.2.2.2.2.2.2.2.2.2.2.2.2.2.2.2.2.2.2.2.1), (hF.out.2.2.2.2.2.2.2.2.2.2.2.2.2.2.2.2.2.2.2.2.1), (fun _ => rfl), (fun _ => rfl), (hF.out.2.2.2.2.2.2.2.2.2.2.2.2.2.2.2.2.2.2.2.2.2.2.2.1), (hF.out.2.2.2.2.2.2.2.2.2.2.2.2.2.2.2.2.2.2.2.2.2.2.2.2.1), (hF.out.2.2.2.2.2.2.2.2.2.2.2.2.2.2.2.2.2.2.2.2.2.2.2.2.2)⟩
    refine StepsF.cons (o := _) rfl (ws := [20, 20]) (by kernel_rfl) (by decide) (fun d s b w hF hd hw K hK => ?_) ?_
    · have hB : Below w8.heap.size w8 w := (hF.out.1)
      have e20 : s 51 = .bool true := (hF.out.2.2.2.2.2.2.2.2.2.2.2.2.2.2.2.2.2.2.2.2.2.2.1) (hw 20 (by decide))
      dsimp only
      go_simp
      go_at_call 23
      refine (k6.out _).mono ?_
      rintro e w1 ⟨rfl, hb⟩
      exact hK.out (ups (ups s 51 (.bool true)) 52 (.bool true)) b _ ⟨(Below.go hB hb), (hF.out.2.1), (hF.out.2.2.1), (hF.out.2.2.2.1), (hF.out.2.2.2.2.1), (hF.out.2.2.2.2.2.1), (hF.out.2.2.2.2.2.2.1), (hF.out.2.2.2.2.2.2.2.1), (hF.out.2.2.2.2.2.2.2.2.1), (hF.out.2.2.2.2.2.2.2.2.2.1), (fun h0 => ((hF.out.2.2.2.2.2.2.2.2.2.2.1) h0).later hb), (hF.out.2.2.2.2.2.2.2.2.2.2.2.1), (hF.out.2.2.2.2.2.2.2.2.2.2.2.2.1), (hF.out.2.2.2.2.2.2.2.2.2.2.2.2.2.1), (hF.out.2.2.2.2.2.2.2.2.2.2.2.2.2.2.1), (hF.out.2.2.2.2.2.2.2.2.2.2.2.2.2.2.2.1), (hF.out.2.2.2.2.2.2.2.2.2.2.2.2.2.2.2.2.1), (hF.out.2.2.2.2.2.2.2.2.2.2.2.2.2.2.2.2.2.1), (hF.out.2.2.2.2.2.2.2.2.2.2.2.2.2.2.2.2.2.2.1), (hF.out.2.2.2.2.2.2.2.2.2.2.2.2.2.2.2.2.2.2.2.1), (hF.out.2.2.2.2.2.2.2.2.2.2.2.2.2.2.2.2.2.2.2.2.1), (hF.out.2.2.2.2.2.2.2.2.2.2.2.2.2.2.2.2.2.2.2.2.2.1), (fun _ => rfl), (fun _ => rfl), (hF.out.2.2.2.2.2.2.2.2.2.2.2.2.2.2.2.2.2.2.2.2.2.2.2.2.1), (hF.out.2.2.2.2.2.2.2.2.2.2.2.2.2.2.2.2.2.2.2.2.2.2.2.2.2)⟩
    refine StepsF.cons (o := _) rfl (ws := [20, 21]) (by kernel_rfl) (by decide) (fun d s b w hF hd hw K hK => ?_) ?_
    · have hB : Below w8.heap.size w8 w := (hF.out.1)
      have e20 : s 51 = .bool true := (hF.out.2.2.2.2.2.2.2.2.2.2.2.2.2.2.2.2.2.2.2.2.2.2.1) (hw 20 (by decide))
      have e21 : s 52 = .bool true := (hF.out.2.2.2.2.2.2.2.2.2.2.2.2.2.2.2.2.2.2.2.2.2.2.2.1) (hw 21 (by decide))
      dsimp only
      go_simp
      exact hK.out (ups (ups (ups s 51 (.bool true)) 52 (.bool true)) 53 (.bool true)) b _ ⟨hB, (hF.out.2.1), (hF.out.2.2.1), (hF.out.2.2.2.1), (hF.out.2.2.2.2.1), (hF.out.2.2.2.2.2.1), (hF.out.2.2.2.2.2.2.1), (hF.out.2.2.2.2.2.2.2.1), (hF.out.2.2.2.2.2.2.2.2.1), (hF.out.2.2.2.2.2.2.2.2.2.1), (hF.out.2.2.2.2.2.2.2.2.2.2.1), (hF.out.2.2.2.2.2.2.2.2.2.2.2.1), (hF.out.2.2.2.2.2.2.2.2.2.2.2.2.1), (hF.out.2.2.2.2.2.2.2.2.2.2.2.2.2.1), (hF.out.2.2.2.2.2.2.2.2.2.2.2.2.2.2.1), (hF.out.2.2.2.2.2.2.2.2.2.2.2.2.2.2.2.1), (hF.out.2.2.2.2.2.2.2.2.2.2.2.2.2.2.2.2.1), (hF.out.2.2.2.2.2.2.2.2.2.2.2.2.2.2.2.2.2.1), (hF.out.2.2.2.2.2.2.2.2.2.2.2.2.2.2.2.2.2.2.1), (hF.out.2.2.2.2.2.2.2.2.2.2.2.2.2.2.2.2.2.2.2.1), (hF.out.2.2.2.2.2.2.2.2.2.2.2.2.2.2.2.2.2.2.2.2.1), (hF.out.2.2.2.2.2.2.2.2.2.2.2.2.2.2.2.2.2.2.2.2.2.1), (fun _ => rfl), (fun _ => rfl), (fun _ => rfl), (hF.out.2.2.2.2.2.2.2.2.2.2.2.2.2.2.2.2.2.2.2.2.2.2.2.2.2)⟩
    refine StepsF.cons (o := _) rfl (ws := [22, 21, 0, 1, 2, 3, 4, 5, 6, 7, 8, 9, 10, 11, 12, 13, 14, 15, 16, 17, 18, 19, 20, 21, 22]) (by kernel_rfl) (by decide) (fun d s b w hF hd hw K hK => ?_) ?_
    · have hB : Below w8.heap.size w8 w := (hF.out.1)
      have e0 : s 31 = .pointer (some ⟨A, 9, none⟩) := (hF.out.2.1) (hw 0 (by decide))
      have e1 : s 32 = (.agg #[.int .i64 a.tx, .int .i64 a.ty, .int .i64 a.tz]) := (hF.out.2.2.1) (hw 1 (by decide))
      have e2 : s 33 = (.agg #[.int .i64 4294967296, .int .i64 0, .int .i64 0, .int .i64 0, .int .i64 4294967296, .int .i64 0, .int .i64 0, .int .i64 0, .int .i64 4294967296, .int .i64 a.tx, .int .i64 a.ty, .int .i64 a.tz]) := (hF.out.2.2.2.1) (hw 2 (by decide))
      have e3 : s 34 = (.agg #[.int .i64 x, .int .i64 y, .int .i64 z]) := (hF.out.2.2.2.2.1) (hw 3 (by decide))
      have e4 : s 35 = (.agg #[.int .i64 X, .int .i64 Y, .int .i64 Z]) := (hF.out.2.2.2.2.2.1) (hw 4 (by decide))
      have e5 : s 36 = (.agg #[.int .i64 x, .int .i64 y, .int .i64 z]) := (hF.out.2.2.2.2.2.2.1) (hw 5 (by decide))
      have e6 : s 37 = .pointer (some ⟨A, 9, none⟩) := (hF.out.2.2.2.2.2.2.2.1) (hw 6 (by decide))
      have e7 : s 38 = (.agg #[.int .i64 a.tx, .int .i64 a.ty, .int .i64 a.tz]) := (hF.out.2.2.2.2.2.2.2.2.1) (hw 7 (by decide))
      have e8 : s 39 = .slice (some ⟨(b 8), 0, none⟩) 2 2 := ((hF.out.2.2.2.2.2.2.2.2.2.1) (hw 8 (by decide))).1
      have le8 : w8.heap.size ≤ b 8 := ((hF.out.2.2.2.2.2.2.2.2.2.1) (hw 8 (by decide))).2
      have e9 : s 40 = (.agg #[.int .i64 X, .int .i64 Y, .int .i64 Z]) := (hF.out.2.2.2.2.2.2.2.2.2.2.2.1) (hw 9 (by decide))
      have e10 : s 41 = .bool true := (hF.out.2.2.2.2.2.2.2.2.2.2.2.2.1) (hw 10 (by decide))
      have e11 : s 42 = .bool true := (hF.out.2.2.2.2.2.2.2.2.2.2.2.2.2.1) (hw 11 (by decide))
      have e12 : s 43 = .pointer (some ⟨A, 9, none⟩) := (hF.out.2.2.2.2.2.2.2.2.2.2.2.2.2.2.1) (hw 12 (by decide))
      have e13 : s 44 = (.agg #[.int .i64 a.tx, .int .i64 a.ty, .int .i64 a.tz]) := (hF.out.2.2.2.2.2.2.2.2.2.2.2.2.2.2.2.1) (hw 13 (by decide))
      have e14 : s 45 = (.agg #[.int .i64 4294967296, .int .i64 0, .int .i64 0, .int .i64 0, .int .i64 4294967296, .int .i64 0, .int .i64 0, .int .i64 0, .int .i64 4294967296, .int .i64 a.tx, .int .i64 a.ty, .int .i64 a.tz]) := (hF.out.2.2.2.2.2.2.2.2.2.2.2.2.2.2.2.2.1) (hw 14 (by decide))
      have e15 : s 46 = (.agg #[.int .i64 x, .int .i64 y, .int .i64 z]) := (hF.out.2.2.2.2.2.2.2.2.2.2.2.2.2.2.2.2.2.1) (hw 15 (by decide))
      have e16 : s 47 = (.agg #[.int .i64 x, .int .i64 y, .int .i64 z]) := (hF.out.2.2.2.2.2.2.2.2.2.2.2.2.2.2.2.2.2.2.1) (hw 16 (by decide))
      have e17 : s 48 = (.agg #[.int .i64 x, .int .i64 y, .int .i64 z]) := (hF.out.2.2.2.2.2.2.2.2.2.2.2.2.2.2.2.2.2.2.2.1) (hw 17 (by decide))
      have e18 : s 49 = .bool true := (hF.out.2.2.2.2.2.2.2.2.2.2.2.2.2.2.2.2.2.2.2.2.1) (hw 18 (by decide))
      have e19 : s 50 = .bool true := (hF.out.2.2.2.2.2.2.2.2.2.2.2.2.2.2.2.2.2.2.2.2.2.1) (hw 19 (by decide))
      have e20 : s 51 = .bool true := (hF.out.2.2.2.2.2.2.2.2.2.2.2.2.2.2.2.2.2.2.2.2.2.2.1) (hw 20 (by decide))
      have e21 : s 52 = .bool true := (hF.out.2.2.2.2.2.2.2.2.2.2.2.2.2.2.2.2.2.2.2.2.2.2.2.1) (hw 21 (by decide))
      have e22 : s 53 = .bool true := (hF.out.2.2.2.2.2.2.2.2.2.2.2.2.2.2.2.2.2.2.2.2.2.2.2.2.1) (hw 22 (by decide))
      dsimp only
      go_simp
      exact hK.out (ups (ups (ups (ups (ups (ups (ups (ups (ups (ups (ups (ups (ups (ups (ups (ups (ups (ups (ups (ups (ups (ups (ups (ups s 31 (.pointer (some ⟨A, 9, none⟩))) 32 ((.agg #[.int .i64 a.tx, .int .i64 a.ty, .int .i64 a.tz]))) 33 ((.agg #[.int .i64 4294967296, .int .i64 0, .int .i64 0, .int .i64 0, .int .i64 4294967296, .int .i64 0, .int .i64 0, .int .i64 0, .int .i64 4294967296, .int .i64 a.tx, .int .i64 a.ty, .int .i64 a.tz]))) 34 ((.agg #[.int .i64 x, .int .i64 y, .int .i64 z]))) 35 ((.agg #[.int .i64 X, .int .i64 Y, .int .i64 Z]))) 36 ((.agg #[.int .i64 x, .int .i64 y, .int .i64 z]))) 37 (.pointer (some ⟨A, 9, none⟩))) 38 ((.agg #[.int .i64 a.tx, .int .i64 a.ty, .int .i64 a.tz]))) 39 (.slice (some ⟨(b 8), 0, none⟩) 2 2)) 40 ((.agg #[.int .i64 X, .int .i64 Y, .int .i64 Z]))) 41 (.bool true)) 42 (.bool true)) 43 (.pointer (some ⟨A, 9, none⟩))) 44 ((.agg #[.int .i64 a.tx, .int .i64 a.ty, .int .i64 a.tz]))) 45 ((.agg #[.int .i64 4294967296, .int .i64 0, .int .i64 0, .int .i64 0, .int .i64 4294967296, .int .i64 0, .int .i64 0, .int .i64 0, .int .i64 4294967296, .int .i64 a.tx, .int .i64 a.ty, .int .i64 a.tz]))) 46 ((.agg #[.int .i64 x, .int .i64 y, .int .i64 z]))) 47 ((.agg #[.int .i64 x, .int .i64 y, .int .i64 z]))) 48 ((.agg #[.int .i64 x, .int .i64 y, .int .i64 z]))) 49 (.bool true)) 50 (.bool true)) 51 (.bool true)) 52 (.bool true)) 53 (.bool true)) 4 (.bool true)) b _ ⟨hB, (fun _ => rfl), (fun _ => rfl), (fun _ => rfl), (fun _ => rfl), (fun _ => rfl), (fun _ => rfl), (fun _ => rfl), (fun _ => rfl), (fun _ => ⟨rfl, le8⟩), (hF.out.2.2.2.2.2.2.2.2.2.2.1), (fun _ => rfl), (fun _ => rfl), (fun _ => rfl), (fun _ => rfl), (fun _ => rfl), (fun _ => rfl), (fun _ => rfl), (fun _ => rfl), (fun _ => rfl), (fun _ => rfl), (fun _ => rfl), (fun _ => rfl), (fun _ => rfl), (fun _ => rfl), (fun _ => rfl)⟩
    exact StepsF.nil
  intro d s b y6 hF hall
  replace hF := Lib.hid hF
  have hB : Below w8.heap.size w8 y6 := (hF.out.1)
  try dsimp only
  have e0 : s 31 = .pointer (some ⟨A, 9, none⟩) := (hF.out.2.1) (hall 0 (by decide))
  have e1 : s 32 = (.agg #[.int .i64 a.tx, .int .i64 a.ty, .int .i64 a.tz]) := (hF.out.2.2.1) (hall 1 (by decide))
  have e2 : s 33 = (.agg #[.int .i64 4294967296, .int .i64 0, .int .i64 0, .int .i64 0, .int .i64 4294967296, .int .i64 0, .int .i64 0, .int .i64 0, .int .i64 4294967296, .int .i64 a.tx, .int .i64 a.ty, .int .i64 a.tz]) := (hF.out.2.2.2.1) (hall 2 (by decide))
  have e3 : s 34 = (.agg #[.int .i64 x, .int .i64 y, .int .i64 z]) := (hF.out.2.2.2.2.1) (hall 3 (by decide))
  have e4 : s 35 = (.agg #[.int .i64 X, .int .i64 Y, .int .i64 Z]) := (hF.out.2.2.2.2.2.1) (hall 4 (by decide))
  have e5 : s 36 = (.agg #[.int .i64 x, .int .i64 y, .int .i64 z]) := (hF.out.2.2.2.2.2.2.1) (hall 5 (by decide))
  have e6 : s 37 = .pointer (some ⟨A, 9, none⟩) := (hF.out.2.2.2.2.2.2.2.1) (hall 6 (by decide))
  have e7 : s 38 = (.agg #[.int .i64 a.tx, .int .i64 a.ty, .int .i64 a.tz]) := (hF.out.2.2.2.2.2.2.2.2.1) (hall 7 (by decide))
  have e8 : s 39 = .slice (some ⟨(b 8), 0, none⟩) 2 2 := ((hF.out.2.2.2.2.2.2.2.2.2.1) (hall 8 (by decide))).1
  have le8 : w8.heap.size ≤ b 8 := ((hF.out.2.2.2.2.2.2.2.2.2.1) (hall 8 (by decide))).2
  have g8 := (hF.out.2.2.2.2.2.2.2.2.2.2.1) (hall 8 (by decide))
  have e9 : s 40 = (.agg #[.int .i64 X, .int .i64 Y, .int .i64 Z]) := (hF.out.2.2.2.2.2.2.2.2.2.2.2.1) (hall 9 (by decide))
  have e10 : s 41 = .bool true := (hF.out.2.2.2.2.2.2.2.2.2.2.2.2.1) (hall 10 (by decide))
  have e11 : s 42 = .bool true := (hF.out.2.2.2.2.2.2.2.2.2.2.2.2.2.1) (hall 11 (by decide))
  have e12 : s 43 = .pointer (some ⟨A, 9, none⟩) := (hF.out.2.2.2.2.2.2.2.2.2.2.2.2.2.2.1) (hall 12 (by decide))
  have e13 : s 44 = (.agg #[.int .i64 a.tx, .int .i64 a.ty, .int .i64 a.tz]) := (hF.out.2.2.2.2.2.2.2.2.2.2.2.2.2.2.2.1) (hall 13 (by decide))
  have e14 : s 45 = (.agg #[.int .i64 4294967296, .int .i64 0, .int .i64 0, .int .i64 0, .int .i64 4294967296, .int .i64 0, .int .i64 0, .int .i64 0, .int .i64 4294967296, .int .i64 a.tx, .int .i64 a.ty, .int .i64 a.tz]) := (hF.out.2.2.2.2.2.2.2.2.2.2.2.2.2.2.2.2.1) (hall 14 (by decide))
  have e15 : s 46 = (.agg #[.int .i64 x, .int .i64 y, .int .i64 z]) := (hF.out.2.2.2.2.2.2.2.2.2.2.2.2.2.2.2.2.2.1) (hall 15 (by decide))
  have e16 : s 47 = (.agg #[.int .i64 x, .int .i64 y, .int .i64 z]) := (hF.out.2.2.2.2.2.2.2.2.2.2.2.2.2.2.2.2.2.2.1) (hall 16 (by decide))
  have e17 : s 48 = (.agg #[.int .i64 x, .int .i64 y, .int .i64 z]) := (hF.out.2.2.2.2.2.2.2.2.2.2.2.2.2.2.2.2.2.2.2.1) (hall 17 (by decide))
  have e18 : s 49 = .bool true := (hF.out.2.2.2.2.2.2.2.2.2.2.2.2.2.2.2.2.2.2.2.2.1) (hall 18 (by decide))
  have e19 : s 50 = .bool true := (hF.out.2.2.2.2.2.2.2.2.2.2.2.2.2.2.2.2.2.2.2.2.2.1) (hall 19 (by decide))
  have e20 : s 51 = .bool true := (hF.out.2.2.2.2.2.2.2.2.2.2.2.2.2.2.2.2.2.2.2.2.2.2.1) (hall 20 (by decide))
  have e21 : s 52 = .bool true := (hF.out.2.2.2.2.2.2.2.2.2.2.2.2.2.2.2.2.2.2.2.2.2.2.2.1) (hall 21 (by decide))
  have e22 : s 53 = .bool true := (hF.out.2.2.2.2.2.2.2.2.2.2.2.2.2.2.2.2.2.2.2.2.2.2.2.2.1) (hall 22 (by decide))
  have e23 : s 4 = .bool true := (hF.out.2.2.2.2.2.2.2.2.2.2.2.2.2.2.2.2.2.2.2.2.2.2.2.2.2) (hall 23 (by decide))
  rw [e0, e1, e2, e3, e4, e5, e6, e7, e8, e9, e10, e11, e12, e13, e14, e15, e16, e17, e18, e19, e20, e21, e22, e23]
  clear hall hF e0 e1 e2 e3 e4 e5 e6 e7 e8 e9 e10 e11 e12 e13 e14 e15 e16 e17 e18 e19 e20 e21 e22 e23
  obtain ⟨nb, hz⟩ : ∃ x, x = b 8 := ⟨_, rfl⟩
  rw [← hz] at le8 g8 ⊢
  clear hz
  clear d s b
  have hB9 : Below w.heap.size w y6 := Below.go hB8 hB
  clear hB8 hB HA2 HV2 k5 k6 k7 k8 k9 g8 le8
  go_wp2_with (fail)
  go_ret
  exact ⟨rfl, hB9⟩

theorem Same_walk (a : Aff) (x y z : Int) (ha : inA a) (hx : in64 x) (hy : in64 y) (hz : in64 z) (w : World) : Calls Try.prog 7 #[(.agg #[.int .i64 a.m0, .int .i64 a.m1, .int .i64 a.m2, .int .i64 a.m3, .int .i64 a.m4, .int .i64 a.m5, .int .i64 a.m6, .int .i64 a.m7, .int .i64 a.m8, .int .i64 a.tx, .int .i64 a.ty, .int .i64 a.tz]), (.agg #[.int .i64 x, .int .i64 y, .int .i64 z])] w fun e w' => e = .returned (.bool true) ∧ Below w.heap.size w w' := by
  have ht := ha
  obtain ⟨h0, h1, h2, h3, h4, h5, h6, h7, h8, h9, h10, h11⟩ := ht
  have mi := in_moveA a.tx a.ty a.tz h9 h10 h11
  refine Same_core a x y z _ _ _ w Same_any ?_ ?_ ?_ (Then_nil none 0) (Move_any a.tx a.ty a.tz) (fun w => Apply_any (moveA a.tx a.ty a.tz) x y z mi hx hy hz w) ?_ ?_ works_any
  · intro w
    have h := Apply_any sameA x y z in_sameA hx hy hz w
    rw [show A0 sameA x y z = x from by show sat (dotF 4294967296 0 0 _ _ _ + 0) = _; rw [dot_100 _ _ _ hx, Int.add_zero, sat_id _ hx], show A1 sameA x y z = y from by show sat (dotF 0 4294967296 0 _ _ _ + 0) = _; rw [dot_010 _ _ _ hy, Int.add_zero, sat_id _ hy], show A2 sameA x y z = z from by show sat (dotF 0 0 4294967296 _ _ _ + 0) = _; rw [dot_001 _ _ _ hz, Int.add_zero, sat_id _ hz]] at h
    exact h
  · intro w blk ho
    have h := Then_two sameA a in_sameA ha blk w ho
    rw [comp_same sameA in_sameA, comp_same a ha] at h
    exact h
  · intro w blk ho
    have h := Then_two a sameA ha in_sameA blk w ho
    rw [comp_same a ha, same_comp a ha] at h
    exact h
  · intro w blk ho
    have h := VAdd_own blk x y z a.tx a.ty a.tz hx hy hz h9 h10 h11 w ho
    rw [show A0 (moveA a.tx a.ty a.tz) x y z = sat (x + a.tx) from by unfold A0; rw [T0_moveA _ _ _ _ _ _ hx]; rfl, show A1 (moveA a.tx a.ty a.tz) x y z = sat (y + a.ty) from by unfold A1; rw [T1_moveA _ _ _ _ _ _ hy]; rfl, show A2 (moveA a.tx a.ty a.tz) x y z = sat (z + a.tz) from by unfold A2; rw [T2_moveA _ _ _ _ _ _ hz]; rfl]
    exact h
  · intro w
    have h := Turn_any (moveA a.tx a.ty a.tz) x y z mi hx hy hz w
    rw [T0_moveA _ _ _ _ _ _ hx, T1_moveA _ _ _ _ _ _ hy, T2_moveA _ _ _ _ _ _ hz] at h
    exact h
end Go.Proofs.Ytalanlekdgobmaa
