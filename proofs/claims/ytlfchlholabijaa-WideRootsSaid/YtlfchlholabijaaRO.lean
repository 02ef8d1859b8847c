/- The document's numbers: ToInt where there is none. -/
import Derived.Test.YtlfchlholabijaaRN
namespace Go.Proofs.Ytlfchlholabijaa
set_option linter.unusedVariables false
set_option maxRecDepth 2000
set_option linter.unusedSimpArgs false
open Go.RowKit
attribute [local go_sem] setCell_twice setCell_pair

set_option maxHeartbeats 4000000 in
theorem ToInt_no (ba : Bool) (p : Option Addr) (n c : Nat) (y : Int) (w : World) (ha : NumR w (.agg #[.bool ba, .slice p n c]) y) (h : y < -9223372036854775808 ∨ 9223372036854775807 < y) :
    Calls Try.prog 17 #[.agg #[.bool ba, .slice p n c]] w fun e w' => e = .returned (.tuple #[.int .i64 0, .bool false]) ∧ Below w.heap.size w w' := by
  have hn := ha.neg_iff
  have HA := Lib.hid ha; clear ha
  have szc := fun wx v (hx : Below w.heap.size w wx) (hv : NumR wx v 9223372036854775808) => size_any _ v y 9223372036854775808 wx (HA.out.later hx (Nat.le_refl _)) hv
  rw [show ((9223372036854775808 : Int).natAbs : Int) = 9223372036854775808 by rfl] at szc
  have cs : cmpI y.natAbs 9223372036854775808 = 1 ∨ (cmpI y.natAbs 9223372036854775808 = 0 ∧ ba = false) := by
    by_cases h1 : 9223372036854775808 < (y.natAbs : Int)
    · exact .inl (cmpI_gt h1)
    · refine .inr ⟨?_, ?_⟩
      · rw [show (y.natAbs : Int) = 9223372036854775808 by omega]; exact cmpI_eq _
      · cases ba
        · rfl
        · have := hn.1 rfl; omega
  have p63 := Lib.hid power_63
  clear hn h
  go_enter Try.func17, Try.ntmps17
  go_wp2_with (fail)
  have hB0 : Below w.heap.size w (w.alloc (.cells #[.bool ba, .slice p n c] 29)) := (by repeat (first | exact Below.refl _ _ | assumption | refine below_drewN ?_ _ | refine Below.drew ?_ | refine Below.alloc ?_ (by first | omega | (simp; done) | (simp; omega)) _ | refine Below.setCell ?_ (by first | (simp; done) | (simp; omega)) _))
  have K0 : Kept [(w.heap.size, 0, .bool ba), (w.heap.size, 1, .slice p n c)] (w.alloc (.cells #[.bool ba, .slice p n c] 29)) := by
    refine .cons ?_ ?_ ?_ (.cons ?_ ?_ ?_ .nil) <;> first | (simp; done) | (simp; omega) | (simp [go_sem]; done)
  obtain ⟨A, hAe⟩ : ∃ A, A = w.heap.size := ⟨_, rfl⟩
  rw [← hAe] at K0 ⊢
  generalize w.alloc (.cells #[.bool ba, .slice p n c] 29) = W0 at *
  have K0 := Lib.hid K0
  have hB0 := Lib.hid hB0
  have hS0 := hB0.out.size
  clear hAe
  rcases cs with h1 | ⟨h1, rfl⟩
  · rw [h1] at szc
    have SZ := Lib.hid szc
    clear szc h1
    have x0z := (K0.out.get A 0 (.bool ba) (by simp)).2.1; have x1z := (K0.out.get A 1 (.slice p n c) (by simp)).2.1
    refine wp_region_held_drew (S := fun w' => w'.cell? ⟨A, 0, none⟩ = some (.bool ba) ∧ w'.cell? ⟨A, 1, none⟩ = some (.slice p n c)) (by kernel_rfl) ?_ (fun hHeld => ?_)
    · exact ⟨by assumption, by assumption⟩
    refine wpAnyH_take (i := 0) (v := ?_) rfl (by kernel_rfl) (by kernel_rfl) (by kernel_rfl) (fun _ _ _ h => h) (Or.inl ⟨by rfl, ?_⟩) (by assumption) ?_
    rotate_left
    · intro w hSw; (try dsimp only at hSw); go_simp; try (with_reducible rfl)
    try simp only [Act.put, List.getElem_toArray, List.getElem_cons_zero, List.getElem_cons_succ, List.setIfInBounds_toArray, List.set_cons_zero, List.set_cons_succ]
    refine wpAnyH_ready (rs := [1]) (by kernel_rfl) (by simp) ?_
    refine AllReadyH.cons rfl (fun K hK => ?_) AllReadyH.nil
    go_simp
    (with_reducible refine (p63.out _).mono ?_); rintro e w2 ⟨v2, rfl, n2, g2⟩; have b2 : Below W0.heap.size W0 w2 := below_step (by repeat (first | exact Below.refl _ _ | assumption | refine below_drewN ?_ _ | refine Below.drew ?_ | refine Below.alloc ?_ (by first | omega | (simp; done) | (simp; omega)) _ | refine Below.setCell ?_ (by first | (simp; done) | (simp; omega)) _)) g2; have K2 := Lib.hid (K0.out.step b2); have x0b := (K2.out.get A 0 (.bool ba) (by simp)).2.1; have x1b := (K2.out.get A 1 (.slice p n c) (by simp)).2.1; have s2 := b2.size; have N2 := Lib.hid n2; clear n2
    refine hK.out _ _ ?_ (fun hHeld => ?_)
    · exact ⟨by assumption, by assumption⟩
    clear hK K
    try simp only [Act.put, List.getElem_toArray, List.getElem_cons_zero, List.getElem_cons_succ, List.setIfInBounds_toArray, List.set_cons_zero, List.set_cons_succ]
    refine wpAnyH_ready (rs := [2]) (by kernel_rfl) (by simp) ?_
    refine AllReadyH.cons rfl (fun K hK => ?_) AllReadyH.nil
    go_simp
    (refine (SZ.out _ v2 ?hx ?hy).mono ?_); (case hx => exact below_step hB0.out (by repeat (first | exact Below.refl _ _ | assumption | refine below_drewN ?_ _ | refine Below.drew ?_ | refine Below.alloc ?_ (by first | omega | (simp; done) | (simp; omega)) _ | refine Below.setCell ?_ (by first | (simp; done) | (simp; omega)) _))); (case hy => exact NumR.later (B := w2.heap.size) N2.out (by repeat (first | exact Below.refl _ _ | assumption | refine below_drewN ?_ _ | refine Below.drew ?_ | refine Below.alloc ?_ (by first | omega | (simp; done) | (simp; omega)) _ | refine Below.setCell ?_ (by first | (simp; done) | (simp; omega)) _)) (Nat.le_refl _)); rintro e w3 ⟨rfl, g3⟩; have b3 : Below W0.heap.size W0 w3 := below_step (by repeat (first | exact Below.refl _ _ | assumption | refine below_drewN ?_ _ | refine Below.drew ?_ | refine Below.alloc ?_ (by first | omega | (simp; done) | (simp; omega)) _ | refine Below.setCell ?_ (by first | (simp; done) | (simp; omega)) _)) g3; have K3 := Lib.hid (K0.out.step b3); have x0c := (K3.out.get A 0 (.bool ba) (by simp)).2.1; have x1c := (K3.out.get A 1 (.slice p n c) (by simp)).2.1; have s3 := b3.size
    refine hK.out _ _ ?_ (fun hHeld => ?_)
    · exact ⟨by assumption, by assumption⟩
    clear hK K
    try simp only [Act.put, List.getElem_toArray, List.getElem_cons_zero, List.getElem_cons_succ, List.setIfInBounds_toArray, List.set_cons_zero, List.set_cons_succ]
    refine wpAnyH_take (i := 3) (v := ?_) rfl (by kernel_rfl) (by kernel_rfl) (by kernel_rfl) (fun _ _ _ h => h) (Or.inl ⟨by rfl, ?_⟩) (by assumption) ?_
    rotate_left
    · intro w hSw; (try dsimp only at hSw); go_simp; try (with_reducible rfl)
    try simp only [Act.put, List.getElem_toArray, List.getElem_cons_zero, List.getElem_cons_succ, List.setIfInBounds_toArray, List.set_cons_zero, List.set_cons_succ]
    refine wpAnyH_take (i := 4) (v := ?_) rfl (by kernel_rfl) (by kernel_rfl) (by kernel_rfl) (fun _ _ _ h => h) (Or.inl ⟨by rfl, ?_⟩) (by assumption) ?_
    rotate_left
    · intro w hSw; (try dsimp only at hSw); go_simp; try (with_reducible rfl)
    try simp only [Act.put, List.getElem_toArray, List.getElem_cons_zero, List.getElem_cons_succ, List.setIfInBounds_toArray, List.set_cons_zero, List.set_cons_succ]
    refine wpAnyH_take (i := 5) (v := undef) rfl (by kernel_rfl) (by kernel_rfl) (by kernel_rfl) (fun _ _ _ h => h) (Or.inr ⟨?_, rfl⟩) (by assumption) ?_
    · kernel_rfl
    try simp only [Act.put, List.getElem_toArray, List.getElem_cons_zero, List.getElem_cons_succ, List.setIfInBounds_toArray, List.set_cons_zero, List.set_cons_succ]
    refine wpAnyH_take (i := 6) (v := undef) rfl (by kernel_rfl) (by kernel_rfl) (by kernel_rfl) (fun _ _ _ h => h) (Or.inr ⟨?_, rfl⟩) (by assumption) ?_
    · kernel_rfl
    try simp only [Act.put, List.getElem_toArray, List.getElem_cons_zero, List.getElem_cons_succ, List.setIfInBounds_toArray, List.set_cons_zero, List.set_cons_succ]
    refine wpAnyH_take (i := 7) (v := undef) rfl (by kernel_rfl) (by kernel_rfl) (by kernel_rfl) (fun _ _ _ h => h) (Or.inr ⟨?_, rfl⟩) (by assumption) ?_
    · kernel_rfl
    try simp only [Act.put, List.getElem_toArray, List.getElem_cons_zero, List.getElem_cons_succ, List.setIfInBounds_toArray, List.set_cons_zero, List.set_cons_succ]
    refine wpAnyH_take (i := 8) (v := undef) rfl (by kernel_rfl) (by kernel_rfl) (by kernel_rfl) (fun _ _ _ h => h) (Or.inr ⟨?_, rfl⟩) (by assumption) ?_
    · kernel_rfl
    try simp only [Act.put, List.getElem_toArray, List.getElem_cons_zero, List.getElem_cons_succ, List.setIfInBounds_toArray, List.set_cons_zero, List.set_cons_succ]
    refine wpAnyH_take (i := 9) (v := undef) rfl (by kernel_rfl) (by kernel_rfl) (by kernel_rfl) (fun _ _ _ h => h) (Or.inr ⟨?_, rfl⟩) (by assumption) ?_
    · kernel_rfl
    try simp only [Act.put, List.getElem_toArray, List.getElem_cons_zero, List.getElem_cons_succ, List.setIfInBounds_toArray, List.set_cons_zero, List.set_cons_succ]
    refine wpAnyH_take (i := 10) (v := undef) rfl (by kernel_rfl) (by kernel_rfl) (by kernel_rfl) (fun _ _ _ h => h) (Or.inr ⟨?_, rfl⟩) (by assumption) ?_
    · kernel_rfl
    try simp only [Act.put, List.getElem_toArray, List.getElem_cons_zero, List.getElem_cons_succ, List.setIfInBounds_toArray, List.set_cons_zero, List.set_cons_succ]
    refine wpAnyH_take (i := 11) (v := undef) rfl (by kernel_rfl) (by kernel_rfl) (by kernel_rfl) (fun _ _ _ h => h) (Or.inr ⟨?_, rfl⟩) (by assumption) ?_
    · kernel_rfl
    try simp only [Act.put, List.getElem_toArray, List.getElem_cons_zero, List.getElem_cons_succ, List.setIfInBounds_toArray, List.set_cons_zero, List.set_cons_succ]
    refine wpAnyH_take (i := 12) (v := undef) rfl (by kernel_rfl) (by kernel_rfl) (by kernel_rfl) (fun _ _ _ h => h) (Or.inr ⟨?_, rfl⟩) (by assumption) ?_
    · kernel_rfl
    try simp only [Act.put, List.getElem_toArray, List.getElem_cons_zero, List.getElem_cons_succ, List.setIfInBounds_toArray, List.set_cons_zero, List.set_cons_succ]
    refine wpAnyH_take (i := 13) (v := undef) rfl (by kernel_rfl) (by kernel_rfl) (by kernel_rfl) (fun _ _ _ h => h) (Or.inr ⟨?_, rfl⟩) (by assumption) ?_
    · kernel_rfl
    try simp only [Act.put, List.getElem_toArray, List.getElem_cons_zero, List.getElem_cons_succ, List.setIfInBounds_toArray, List.set_cons_zero, List.set_cons_succ]
    refine wpAnyH_take (i := 14) (v := ?_) rfl (by kernel_rfl) (by kernel_rfl) (by kernel_rfl) (fun _ _ _ h => h) (Or.inl ⟨by rfl, ?_⟩) (by assumption) ?_
    rotate_left
    · intro w hSw; (try dsimp only at hSw); go_simp; try (with_reducible rfl)
    try simp only [Act.put, List.getElem_toArray, List.getElem_cons_zero, List.getElem_cons_succ, List.setIfInBounds_toArray, List.set_cons_zero, List.set_cons_succ]
    refine wpAnyH_done (by kernel_rfl) ?_ _
    go_wp2_with (fail)
    go_ret2
    exact ⟨rfl, below_step hB0.out b3⟩
  · rw [h1] at szc
    have SZ := Lib.hid szc
    clear szc h1
    have x0z := (K0.out.get A 0 (.bool false) (by simp)).2.1; have x1z := (K0.out.get A 1 (.slice p n c) (by simp)).2.1
    go_region_held3 (fun w' => w'.cell? ⟨A, 0, none⟩ = some (.bool false) ∧ w'.cell? ⟨A, 1, none⟩ = some (.slice p n c)) (first | exact ⟨by assumption, by assumption⟩ | go_keep) (first | (go_at_call 16; (with_reducible refine (p63.out _).mono ?_); rintro e w2 ⟨v2, rfl, n2, g2⟩; have b2 : Below W0.heap.size W0 w2 := below_step (by repeat (first | exact Below.refl _ _ | assumption | refine below_drewN ?_ _ | refine Below.drew ?_ | refine Below.alloc ?_ (by first | omega | (simp; done) | (simp; omega)) _ | refine Below.setCell ?_ (by first | (simp; done) | (simp; omega)) _)) g2; have K2 := Lib.hid (K0.out.step b2); have x0b := (K2.out.get A 0 (.bool false) (by simp)).2.1; have x1b := (K2.out.get A 1 (.slice p n c) (by simp)).2.1; have s2 := b2.size; have N2 := Lib.hid n2; clear n2) | (go_at_call 29; (refine (SZ.out _ v2 ?hx ?hy).mono ?_); (case hx => exact below_step hB0.out (by repeat (first | exact Below.refl _ _ | assumption | refine below_drewN ?_ _ | refine Below.drew ?_ | refine Below.alloc ?_ (by first | omega | (simp; done) | (simp; omega)) _ | refine Below.setCell ?_ (by first | (simp; done) | (simp; omega)) _))); (case hy => exact NumR.later (B := w2.heap.size) N2.out (by repeat (first | exact Below.refl _ _ | assumption | refine below_drewN ?_ _ | refine Below.drew ?_ | refine Below.alloc ?_ (by first | omega | (simp; done) | (simp; omega)) _ | refine Below.setCell ?_ (by first | (simp; done) | (simp; omega)) _)) (Nat.le_refl _)); rintro e w3 ⟨rfl, g3⟩; have b3 : Below W0.heap.size W0 w3 := below_step (by repeat (first | exact Below.refl _ _ | assumption | refine below_drewN ?_ _ | refine Below.drew ?_ | refine Below.alloc ?_ (by first | omega | (simp; done) | (simp; omega)) _ | refine Below.setCell ?_ (by first | (simp; done) | (simp; omega)) _)) g3; have K3 := Lib.hid (K0.out.step b3); have x0c := (K3.out.get A 0 (.bool false) (by simp)).2.1; have x1c := (K3.out.get A 1 (.slice p n c) (by simp)).2.1; have s3 := b3.size))
    all_goals go_wp2_with (fail)
    all_goals go_ret2
    all_goals exact ⟨rfl, below_step hB0.out b3⟩
end Go.Proofs.Ytlfchlholabijaa
