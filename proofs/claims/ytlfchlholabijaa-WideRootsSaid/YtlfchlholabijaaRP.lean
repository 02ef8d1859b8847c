/- The document's numbers: ToInt of what an int64 holds. -/
import Derived.Test.YtlfchlholabijaaRO
import Derived.Deep.DeepCutAuto
import Derived.LoopTactic
namespace Go.Proofs.Ytlfchlholabijaa
set_option linter.unusedVariables false
set_option maxRecDepth 2000
set_option linter.unusedSimpArgs false
open Go.RowKit
attribute [local go_sem] setCell_twice setCell_pair

theorem top4_step (d0 d1 d2 d3 d : Int) (k : Nat) (hk : k < 4) (hd : d = [d0, d1, d2, d3].getD k 0) : top4 d0 d1 d2 d3 k = top4 d0 d1 d2 d3 (k + 1) * 65536 + d := by
  subst hd
  match k, hk with
  | 0, _ => rfl
  | 1, _ => rfl
  | 2, _ => rfl
  | 3, _ => show d3 = 0 * 65536 + d3; omega
theorem top4_bd (d0 d1 d2 d3 : Int) (h0 : 0 ≤ d0) (h1 : 0 ≤ d1) (h2 : 0 ≤ d2) (h3 : 0 ≤ d3) (k : Nat) (hk : k ≤ 4) : 0 ≤ top4 d0 d1 d2 d3 k ∧ top4 d0 d1 d2 d3 k ≤ top4 d0 d1 d2 d3 0 := by
  match k, hk with
  | 0, _ => simp only [top4]; omega
  | 1, _ => simp only [top4]; omega
  | 2, _ => simp only [top4]; omega
  | 3, _ => simp only [top4]; omega
  | 4, _ => simp only [top4]; omega

set_option maxHeartbeats 4000000 in
theorem ToInt_yes (ba : Bool) (p : Option Addr) (n c : Nat) (y : Int) (w : World) (ha : NumR w (.agg #[.bool ba, .slice p n c]) y) (h0 : -9223372036854775808 ≤ y) (h1 : y ≤ 9223372036854775807) :
    Calls Try.prog 17 #[.agg #[.bool ba, .slice p n c]] w fun e w' => e = .returned (.tuple #[.int .i64 y, .bool true]) ∧ Below w.heap.size w w' := by
  have hn := ha.neg_iff
  have HA := Lib.hid ha
  obtain ⟨b', s', ds, e, hs, hd, hc, hzz, hy⟩ := ha
  cases e
  clear hzz
  have HS := Lib.hid hs; clear hs
  have hv : val ds = (y.natAbs : Int) := by
    have hp : 0 ≤ val ds := by
      rw [val_V ds ds.length (Nat.le_refl _)]
      exact (V_lt (fun i => ds.getD i 0) ds.length hd).1
    cases ba <;> simp at hy <;> omega
  have hl := len_four ds hd hc (by rw [hv]; omega)
  have v4 := val_four' ds hl
  rw [hv] at v4
  have g0 := hd 0; have g1 := hd 1; have g2 := hd 2; have g3 := hd 3
  have DG := Lib.hid (fun k (hk : k < 4) => (show ds.getD k 0 = [ds.getD 0 0, ds.getD 1 0, ds.getD 2 0, ds.getD 3 0].getD k 0 from match k, hk with | 0, _ => rfl | 1, _ => rfl | 2, _ => rfl | 3, _ => rfl))
  have DD := Lib.hid hd
  have dig := Lib.hid (fun k (hk : k < 4) wx (hx : Below w.heap.size w wx) => digit_any ba (.slice p n c) ds k (by omega) wx (HS.out.later hx (Nat.le_refl _)))
  clear hd hc hl hy hv
  have szc := fun wx v (hx : Below w.heap.size w wx) (hv : NumR wx v 9223372036854775808) => size_any _ v y 9223372036854775808 wx (HA.out.later hx (Nat.le_refl _)) hv
  rw [show ((9223372036854775808 : Int).natAbs : Int) = 9223372036854775808 by rfl] at szc
  have cs : cmpI y.natAbs 9223372036854775808 = -1 ∨ (cmpI y.natAbs 9223372036854775808 = 0 ∧ ba = true) := by
    by_cases h : (y.natAbs : Int) < 9223372036854775808
    · exact .inl (by unfold cmpI; rw [if_pos h])
    · refine .inr ⟨?_, hn.2 (by omega)⟩
      rw [show (y.natAbs : Int) = 9223372036854775808 by omega]; exact cmpI_eq _
  have p63 := Lib.hid power_63
  go_enter Try.func17, Try.ntmps17
  go_wp2_with (fail)
  have hB0 : Below w.heap.size w (w.alloc (.cells #[.bool ba, .slice p n c] 29)) := (by repeat (first | exact Below.refl _ _ | assumption | refine below_drewN ?_ _ | refine Below.drew ?_ | refine Below.alloc ?_ (by first | omega | (simp; done) | (simp; omega)) _ | refine Below.setCell ?_ (by first | (simp; done) | (simp; omega)) _))
  have K0 : Kept [(w.heap.size, 0, .bool ba), (w.heap.size, 1, .slice p n c)] (w.alloc (.cells #[.bool ba, .slice p n c] 29)) := by
    refine .cons ?_ ?_ ?_ (.cons ?_ ?_ ?_ .nil) <;> first | (simp; done) | (simp; omega) | (simp [go_sem]; done)
  generalize (w.alloc (.cells #[.bool ba, .slice p n c] 29)) = W0 at *
  have K0 := Lib.hid K0
  have hB0 := Lib.hid hB0
  go_cut [21] (fun s wx => s = .bool false ∧ wx.cell? ⟨w.heap.size, 0, none⟩ = some (.bool ba) ∧ wx.cell? ⟨w.heap.size, 1, none⟩ = some (.slice p n c) ∧ Below W0.heap.size W0 wx)
  case first =>
    obtain ⟨A, hAe⟩ : ∃ A, A = w.heap.size := ⟨_, rfl⟩
    rw [← hAe] at K0 ⊢
    have hS0 := hB0.out.size
    have hAH := Lib.hid hAe
    clear hAe dig DG DD HS v4 g0 g1 g2 g3 hn h0 h1
    rcases cs with h1 | ⟨h1, rfl⟩
    · rw [h1] at szc
      have SZ := Lib.hid szc
      clear szc h1
      have x0z := (K0.out.get A 0 (.bool ba) (by simp)).2.1; have x1z := (K0.out.get A 1 (.slice p n c) (by simp)).2.1
      refine wp_region_held_drew (S := fun w' => w'.cell? ⟨A, 0, none⟩ = some (.bool ba) ∧ w'.cell? ⟨A, 1, none⟩ = some (.slice p n c)) (by kernel_rfl) ?_ (fun hHeld => ?_)
      · exact ⟨by assumption, by assumption⟩
      refine wpAnyH_take (i := 0) (v := ?_) rfl (by kernel_rfl) (by kernel_rfl) (by kernel_rfl) (fun _ _ _ h => h) (Or.inl ⟨by rfl, ?_⟩) (by assumption) ?_
      rotate_left
      · intro w hSw; (try dsimp only at hSw); go_simp; try (with_reducible rfl)
      try simp only [Act.put, List.getElem_toArray, List.getElem_cons_zero, List.getElem_cons_succ, List.setIfInBounds_toArray, List.set_cons_zero, List.set_cons_succ]
      refine wpAnyH_ready (rs := [1]) (by kernel_rfl) (by simp) ?_
      refine AllReadyH.cons rfl (fun K hK => ?_) AllReadyH.nil
      go_simp
      (with_reducible refine (p63.out _).mono ?_); rintro e w2 ⟨v2, rfl, n2, g2⟩; have b2 : Below W0.heap.size W0 w2 := below_step (by repeat (first | exact Below.refl _ _ | assumption | refine below_drewN ?_ _ | refine Below.drew ?_ | refine Below.alloc ?_ (by first | omega | (simp; done) | (simp; omega)) _ | refine Below.setCell ?_ (by first | (simp; done) | (simp; omega)) _)) g2; have K2 := Lib.hid (K0.out.step b2); have x0b := (K2.out.get A 0 (.bool ba) (by simp)).2.1; have x1b := (K2.out.get A 1 (.slice p n c) (by simp)).2.1; have s2 := b2.size; have N2 := Lib.hid n2; clear n2
      refine hK.out _ _ ?_ (fun hHeld => ?_)
      · exact ⟨by assumption, by assumption⟩
      clear hK K
      try simp only [Act.put, List.getElem_toArray, List.getElem_cons_zero, List.getElem_cons_succ, List.setIfInBounds_toArray, List.set_cons_zero, List.set_cons_succ]
      refine wpAnyH_ready (rs := [2]) (by kernel_rfl) (by simp) ?_
      refine AllReadyH.cons rfl (fun K hK => ?_) AllReadyH.nil
      go_simp
      (refine (SZ.out _ v2 ?hx ?hy).mono ?_); (case hx => exact below_step hB0.out (by repeat (first | exact Below.refl _ _ | assumption | refine below_drewN ?_ _ | refine Below.drew ?_ | refine Below.alloc ?_ (by first | omega | (simp; done) | (simp; omega)) _ | refine Below.setCell ?_ (by first | (simp; done) | (simp; omega)) _))); (case hy => exact NumR.later (B := w2.heap.size) N2.out (by repeat (first | exact Below.refl _ _ | assumption | refine below_drewN ?_ _ | refine Below.drew ?_ | refine Below.alloc ?_ (by first | omega | (simp; done) | (simp; omega)) _ | refine Below.setCell ?_ (by first | (simp; done) | (simp; omega)) _)) (Nat.le_refl _)); rintro e w3 ⟨rfl, g3⟩; have b3 : Below W0.heap.size W0 w3 := below_step (by repeat (first | exact Below.refl _ _ | assumption | refine below_drewN ?_ _ | refine Below.drew ?_ | refine Below.alloc ?_ (by first | omega | (simp; done) | (simp; omega)) _ | refine Below.setCell ?_ (by first | (simp; done) | (simp; omega)) _)) g3; have K3 := Lib.hid (K0.out.step b3); have x0c := (K3.out.get A 0 (.bool ba) (by simp)).2.1; have x1c := (K3.out.get A 1 (.slice p n c) (by simp)).2.1; have s3 := b3.size
      refine hK.out _ _ ?_ (fun hHeld => ?_)
      · exact ⟨by assumption, by assumption⟩
      clear hK K
      try simp only [Act.put, List.getElem_toArray, List.getElem_cons_zero, List.getElem_cons_succ, List.setIfInBounds_toArray, List.set_cons_zero, List.set_cons_succ]
      refine wpAnyH_take (i := 3) (v := ?_) rfl (by kernel_rfl) (by kernel_rfl) (by kernel_rfl) (fun _ _ _ h => h) (Or.inl ⟨by rfl, ?_⟩) (by assumption) ?_
      rotate_left
      · intro w hSw; (try dsimp only at hSw); go_simp; try (with_reducible rfl)
      try simp only [Act.put, List.getElem_toArray, List.getElem_cons_zero, List.getElem_cons_succ, List.setIfInBounds_toArray, List.set_cons_zero, List.set_cons_succ]
      refine wpAnyH_take (i := 4) (v := ?_) rfl (by kernel_rfl) (by kernel_rfl) (by kernel_rfl) (fun _ _ _ h => h) (Or.inl ⟨by rfl, ?_⟩) (by assumption) ?_
      rotate_left
      · intro w hSw; (try dsimp only at hSw); go_simp; try (with_reducible rfl)
      try simp only [Act.put, List.getElem_toArray, List.getElem_cons_zero, List.getElem_cons_succ, List.setIfInBounds_toArray, List.set_cons_zero, List.set_cons_succ]
      refine wpAnyH_take (i := 5) (v := ?_) rfl (by kernel_rfl) (by kernel_rfl) (by kernel_rfl) (fun _ _ _ h => h) (Or.inl ⟨by rfl, ?_⟩) (by assumption) ?_
      rotate_left
      · intro w hSw; (try dsimp only at hSw); go_simp; try (with_reducible rfl)
      try simp only [Act.put, List.getElem_toArray, List.getElem_cons_zero, List.getElem_cons_succ, List.setIfInBounds_toArray, List.set_cons_zero, List.set_cons_succ]
      clear b2 K2 x0b x1b N2
      refine wpAnyH_ready (rs := [6]) (by kernel_rfl) (by simp) ?_
      refine AllReadyH.cons rfl (fun K hK => ?_) AllReadyH.nil
      go_simp
      (with_reducible refine (p63.out _).mono ?_); rintro e w2 ⟨v2, rfl, n2, g2⟩; have b2 : Below W0.heap.size W0 w2 := below_step (by repeat (first | exact Below.refl _ _ | assumption | refine below_drewN ?_ _ | refine Below.drew ?_ | refine Below.alloc ?_ (by first | omega | (simp; done) | (simp; omega)) _ | refine Below.setCell ?_ (by first | (simp; done) | (simp; omega)) _)) g2; have K2 := Lib.hid (K0.out.step b2); have x0b := (K2.out.get A 0 (.bool ba) (by simp)).2.1; have x1b := (K2.out.get A 1 (.slice p n c) (by simp)).2.1; have s2 := b2.size; have N2 := Lib.hid n2; clear n2
      refine hK.out _ _ ?_ (fun hHeld => ?_)
      · exact ⟨by assumption, by assumption⟩
      clear hK K
      try simp only [Act.put, List.getElem_toArray, List.getElem_cons_zero, List.getElem_cons_succ, List.setIfInBounds_toArray, List.set_cons_zero, List.set_cons_succ]
      clear K3 x0c x1c b3 s3
      refine wpAnyH_ready (rs := [7]) (by kernel_rfl) (by simp) ?_
      refine AllReadyH.cons rfl (fun K hK => ?_) AllReadyH.nil
      go_simp
      (refine (SZ.out _ v2 ?hx ?hy).mono ?_); (case hx => exact below_step hB0.out (by repeat (first | exact Below.refl _ _ | assumption | refine below_drewN ?_ _ | refine Below.drew ?_ | refine Below.alloc ?_ (by first | omega | (simp; done) | (simp; omega)) _ | refine Below.setCell ?_ (by first | (simp; done) | (simp; omega)) _))); (case hy => exact NumR.later (B := w2.heap.size) N2.out (by repeat (first | exact Below.refl _ _ | assumption | refine below_drewN ?_ _ | refine Below.drew ?_ | refine Below.alloc ?_ (by first | omega | (simp; done) | (simp; omega)) _ | refine Below.setCell ?_ (by first | (simp; done) | (simp; omega)) _)) (Nat.le_refl _)); rintro e w3 ⟨rfl, g3⟩; have b3 : Below W0.heap.size W0 w3 := below_step (by repeat (first | exact Below.refl _ _ | assumption | refine below_drewN ?_ _ | refine Below.drew ?_ | refine Below.alloc ?_ (by first | omega | (simp; done) | (simp; omega)) _ | refine Below.setCell ?_ (by first | (simp; done) | (simp; omega)) _)) g3; have K3 := Lib.hid (K0.out.step b3); have x0c := (K3.out.get A 0 (.bool ba) (by simp)).2.1; have x1c := (K3.out.get A 1 (.slice p n c) (by simp)).2.1; have s3 := b3.size
      refine hK.out _ _ ?_ (fun hHeld => ?_)
      · exact ⟨by assumption, by assumption⟩
      clear hK K
      try simp only [Act.put, List.getElem_toArray, List.getElem_cons_zero, List.getElem_cons_succ, List.setIfInBounds_toArray, List.set_cons_zero, List.set_cons_succ]
      refine wpAnyH_take (i := 8) (v := ?_) rfl (by kernel_rfl) (by kernel_rfl) (by kernel_rfl) (fun _ _ _ h => h) (Or.inl ⟨by rfl, ?_⟩) (by assumption) ?_
      rotate_left
      · intro w hSw; (try dsimp only at hSw); go_simp; try (with_reducible rfl)
      try simp only [Act.put, List.getElem_toArray, List.getElem_cons_zero, List.getElem_cons_succ, List.setIfInBounds_toArray, List.set_cons_zero, List.set_cons_succ]
      refine wpAnyH_take (i := 9) (v := ?_) rfl (by kernel_rfl) (by kernel_rfl) (by kernel_rfl) (fun _ _ _ h => h) (Or.inl ⟨by rfl, ?_⟩) (by assumption) ?_
      rotate_left
      · intro w hSw; (try dsimp only at hSw); go_simp; try (with_reducible rfl)
      try simp only [Act.put, List.getElem_toArray, List.getElem_cons_zero, List.getElem_cons_succ, List.setIfInBounds_toArray, List.set_cons_zero, List.set_cons_succ]
      refine wpAnyH_take (i := 10) (v := undef) rfl (by kernel_rfl) (by kernel_rfl) (by kernel_rfl) (fun _ _ _ h => h) (Or.inr ⟨?_, rfl⟩) (by assumption) ?_
      · kernel_rfl
      try simp only [Act.put, List.getElem_toArray, List.getElem_cons_zero, List.getElem_cons_succ, List.setIfInBounds_toArray, List.set_cons_zero, List.set_cons_succ]
      refine wpAnyH_take (i := 11) (v := undef) rfl (by kernel_rfl) (by kernel_rfl) (by kernel_rfl) (fun _ _ _ h => h) (Or.inr ⟨?_, rfl⟩) (by assumption) ?_
      · kernel_rfl
      try simp only [Act.put, List.getElem_toArray, List.getElem_cons_zero, List.getElem_cons_succ, List.setIfInBounds_toArray, List.set_cons_zero, List.set_cons_succ]
      refine wpAnyH_take (i := 12) (v := undef) rfl (by kernel_rfl) (by kernel_rfl) (by kernel_rfl) (fun _ _ _ h => h) (Or.inr ⟨?_, rfl⟩) (by assumption) ?_
      · kernel_rfl
      try simp only [Act.put, List.getElem_toArray, List.getElem_cons_zero, List.getElem_cons_succ, List.setIfInBounds_toArray, List.set_cons_zero, List.set_cons_succ]
      refine wpAnyH_take (i := 13) (v := ?_) rfl (by kernel_rfl) (by kernel_rfl) (by kernel_rfl) (fun _ _ _ h => h) (Or.inl ⟨by rfl, ?_⟩) (by assumption) ?_
      rotate_left
      · intro w hSw; (try dsimp only at hSw); go_simp; try (with_reducible rfl)
      try simp only [Act.put, List.getElem_toArray, List.getElem_cons_zero, List.getElem_cons_succ, List.setIfInBounds_toArray, List.set_cons_zero, List.set_cons_succ]
      refine wpAnyH_take (i := 14) (v := ?_) rfl (by kernel_rfl) (by kernel_rfl) (by kernel_rfl) (fun _ _ _ h => h) (Or.inl ⟨by rfl, ?_⟩) (by assumption) ?_
      rotate_left
      · intro w hSw; (try dsimp only at hSw); go_simp; try (with_reducible rfl)
      try simp only [Act.put, List.getElem_toArray, List.getElem_cons_zero, List.getElem_cons_succ, List.setIfInBounds_toArray, List.set_cons_zero, List.set_cons_succ]
      refine wpAnyH_done (by kernel_rfl) ?_ _
      have hAe := hAH.out
      clear hAH
      subst hAe
      go_wp2_with fail
      go_meet
      exact ⟨rfl, x0c, x1c, b3⟩
    · rw [h1] at szc
      have SZ := Lib.hid szc
      clear szc h1
      have x0z := (K0.out.get A 0 (.bool true) (by simp)).2.1; have x1z := (K0.out.get A 1 (.slice p n c) (by simp)).2.1
      go_region_held3 (fun w' => w'.cell? ⟨A, 0, none⟩ = some (.bool true) ∧ w'.cell? ⟨A, 1, none⟩ = some (.slice p n c)) (first | exact ⟨by assumption, by assumption⟩ | go_keep) (first | (go_at_call 16; (with_reducible refine (p63.out _).mono ?_); rintro e w2 ⟨v2, rfl, n2, g2⟩; have b2 : Below W0.heap.size W0 w2 := below_step (by repeat (first | exact Below.refl _ _ | assumption | refine below_drewN ?_ _ | refine Below.drew ?_ | refine Below.alloc ?_ (by first | omega | (simp; done) | (simp; omega)) _ | refine Below.setCell ?_ (by first | (simp; done) | (simp; omega)) _)) g2; have K2 := Lib.hid (K0.out.step b2); have x0b := (K2.out.get A 0 (.bool true) (by simp)).2.1; have x1b := (K2.out.get A 1 (.slice p n c) (by simp)).2.1; have s2 := b2.size; have N2 := Lib.hid n2; clear n2) | (go_at_call 29; (refine (SZ.out _ v2 ?hx ?hy).mono ?_); (case hx => exact below_step hB0.out (by repeat (first | exact Below.refl _ _ | assumption | refine below_drewN ?_ _ | refine Below.drew ?_ | refine Below.alloc ?_ (by first | omega | (simp; done) | (simp; omega)) _ | refine Below.setCell ?_ (by first | (simp; done) | (simp; omega)) _))); (case hy => exact NumR.later (B := w2.heap.size) N2.out (by repeat (first | exact Below.refl _ _ | assumption | refine below_drewN ?_ _ | refine Below.drew ?_ | refine Below.alloc ?_ (by first | omega | (simp; done) | (simp; omega)) _ | refine Below.setCell ?_ (by first | (simp; done) | (simp; omega)) _)) (Nat.le_refl _)); rintro e w3 ⟨rfl, g3⟩; have b3 : Below W0.heap.size W0 w3 := below_step (by repeat (first | exact Below.refl _ _ | assumption | refine below_drewN ?_ _ | refine Below.drew ?_ | refine Below.alloc ?_ (by first | omega | (simp; done) | (simp; omega)) _ | refine Below.setCell ?_ (by first | (simp; done) | (simp; omega)) _)) g3; have K3 := Lib.hid (K0.out.step b3); have x0c := (K3.out.get A 0 (.bool true) (by simp)).2.1; have x1c := (K3.out.get A 1 (.slice p n c) (by simp)).2.1; have s3 := b3.size))
      have hAe := hAH.out
      clear hAH
      subst hAe
      go_wp2_with fail
      go_meet
      exact ⟨rfl, x0c, x1c, b3⟩
  case rest =>
    obtain ⟨rfl, a0, a1, hB⟩ := hcut
    have hBw : Below w.heap.size w wc := below_step hB0.out hB
    have lt0 : w.heap.size < wc.heap.size := by have := (K0.out.get w.heap.size 0 (.bool ba) (by simp)).1; have := hB.size; omega
    have tb := Lib.hid (top4_bd _ _ _ _ g0.1 g1.1 g2.1 g3.1)
    have ts := Lib.hid (fun k (hk : k < 4) => top4_step (ds.getD 0 0) (ds.getD 1 0) (ds.getD 2 0) (ds.getD 3 0) (ds.getD k 0) k hk (DG.out k hk))
    have t0 : top4 (ds.getD 0 0) (ds.getD 1 0) (ds.getD 2 0) (ds.getD 3 0) 0 = (y.natAbs : Int) := by simp only [top4]; omega
    generalize ds.getD 0 0 = d0 at *
    generalize ds.getD 1 0 = d1 at *
    generalize ds.getD 2 0 = d2 at *
    generalize ds.getD 3 0 = d3 at *
    clear szc cs p63 HA HS K0 hB0 hB v4 DG
    cases ba
    · have hyy : ¬ y < 0 := fun h => by have := hn.2 h; cases this
      clear hn
      go_wp2_with (fail)
      go_loopw [4, 5] (fun nv iv wr => ∃ (j : Nat) (N i : Int), j ≤ 4 ∧ iv = .int .i64 i ∧ nv = .int .i64 N ∧ i = (j : Int) - 1 ∧ Hid (N = top4 d0 d1 d2 d3 j) ∧ Below w.heap.size w wr ∧ Below wc.heap.size wc wr) (fun _ i _ => (intOf i + 1).toNat)
      case atStart => exact ⟨4, 0, 3, by omega, rfl, rfl, by omega, Lib.hid (by simp [top4]), hBw, Below.refl _ _⟩
      case round =>
        obtain ⟨j, N, i, hj, rfl, rfl, hi, hN, hBr, hBc⟩ := hrel
        have c0 := (hBc.cell (p := ⟨w.heap.size, 0, none⟩) lt0).trans a0
        have c1 := (hBc.cell (p := ⟨w.heap.size, 1, none⟩) lt0).trans a1
        by_cases hj0 : j = 0
        · subst hj0
          obtain rfl : i = -1 := by omega
          obtain rfl : N = y := by have := hN.out; omega
          clear dig ts tb DD hN t0 hyy g0 g1 g2 g3 h0 h1 hj hi
          go_wp2_with (fail)
          go_ret2
          exact ⟨rfl, hBr⟩
        · obtain ⟨k, rfl⟩ : ∃ k, j = k + 1 := ⟨j - 1, by omega⟩
          obtain rfl : i = (k : Int) := by omega
          have hk : k < 4 := by omega
          have st := ts.out k hk
          have t1 := tb.out k (by omega)
          have t2 := tb.out (k + 1) (by omega)
          have dd := DD.out k
          have dg := Lib.hid (dig.out k hk)
          have hN' := hN.out
          have sQ := Lib.hid (rfl : top4 d0 d1 d2 d3 k = top4 d0 d1 d2 d3 k)
          generalize hP : top4 d0 d1 d2 d3 (k + 1) = P at *
          generalize hQ : top4 d0 d1 d2 d3 k = Q at *
          generalize ds.getD k 0 = d at *
          have HQ := Lib.hid hQ
          clear ts tb DD dig hN hP hQ sQ
          have hN2 := hN'.symm
          clear hN'
          subst hN2
          have e1 : -9223372036854775808 ≤ P * 65536 ∧ P * 65536 ≤ 9223372036854775807 := by omega
          have e2 : -9223372036854775808 ≤ P * 65536 + d ∧ P * 65536 + d ≤ 9223372036854775807 := by omega
          have w1 : IntKind.i64.wrap (P * 65536) = P * 65536 := by rw [IntKind.wrap_i64]; omega
          have w2 : IntKind.i64.wrap (P * 65536 + d) = P * 65536 + d := by rw [IntKind.wrap_i64]; omega
          have e3 : P * 65536 + d = Q := by omega
          have E3 := Lib.hid e3
          have HD := Lib.hid dd
          have HE := Lib.hid e2
          clear e3 t0 t1 t2 st dd hyy g0 g1 g2 g3 h0 h1 hj0 hi hj
          have hk3 : (k : Int) ≤ 3 := by omega
          go_wp2_with (go_at_call 18; refine (dg.out _ (by first | exact hBr | exact hBr.drew)).mono ?_; rintro e w9 ⟨rfl, hb⟩; have b9 : Below wc.heap.size wc w9 := below_step (by first | exact hBc | exact hBc.drew) hb; have b8 : Below w.heap.size w w9 := below_step (by first | exact hBr | exact hBr.drew) hb; have k0 := (b9.cell (p := ⟨w.heap.size, 0, none⟩) lt0).trans a0; have k1 := (b9.cell (p := ⟨w.heap.size, 1, none⟩) lt0).trans a1)
          go_roundw
          case rel => exact ⟨k, P * 65536 + d, (k : Int) - 1, by omega, by go_num, by first | go_num | exact congrArg _ w2 | (have h5 := HD.out; have h6 := HE.out; unfold wrap64; congr 1; omega), by omega, Lib.hid (by rw [HQ.out]; exact E3.out), b8, b9⟩
          case measure => simp [intOf] <;> omega
    · have hyy : y < 0 := hn.1 rfl
      clear hn
      go_wp2_with (fail)
      go_loopw [4, 5] (fun nv iv wr => ∃ (j : Nat) (N i : Int), j ≤ 4 ∧ iv = .int .i64 i ∧ nv = .int .i64 N ∧ i = (j : Int) - 1 ∧ Hid (N = -(top4 d0 d1 d2 d3 j)) ∧ Below w.heap.size w wr ∧ Below wc.heap.size wc wr) (fun _ i _ => (intOf i + 1).toNat)
      case atStart => exact ⟨4, 0, 3, by omega, rfl, rfl, by omega, Lib.hid (by simp [top4]), hBw, Below.refl _ _⟩
      case round =>
        obtain ⟨j, N, i, hj, rfl, rfl, hi, hN, hBr, hBc⟩ := hrel
        have c0 := (hBc.cell (p := ⟨w.heap.size, 0, none⟩) lt0).trans a0
        have c1 := (hBc.cell (p := ⟨w.heap.size, 1, none⟩) lt0).trans a1
        by_cases hj0 : j = 0
        · subst hj0
          obtain rfl : i = -1 := by omega
          obtain rfl : N = y := by have := hN.out; omega
          clear dig ts tb DD hN t0 hyy g0 g1 g2 g3 h0 h1 hj hi
          go_wp2_with (fail)
          go_ret2
          exact ⟨rfl, hBr⟩
        · obtain ⟨k, rfl⟩ : ∃ k, j = k + 1 := ⟨j - 1, by omega⟩
          obtain rfl : i = (k : Int) := by omega
          have hk : k < 4 := by omega
          have st := ts.out k hk
          have t1 := tb.out k (by omega)
          have t2 := tb.out (k + 1) (by omega)
          have dd := DD.out k
          have dg := Lib.hid (dig.out k hk)
          have hN' := hN.out
          have sQ := Lib.hid (rfl : top4 d0 d1 d2 d3 k = top4 d0 d1 d2 d3 k)
          generalize hP : top4 d0 d1 d2 d3 (k + 1) = P at *
          generalize hQ : top4 d0 d1 d2 d3 k = Q at *
          generalize ds.getD k 0 = d at *
          have HQ := Lib.hid hQ
          clear ts tb DD dig hN hP hQ sQ
          subst hN'
          have e1 : -9223372036854775808 ≤ -(P) * 65536 ∧ -(P) * 65536 ≤ 9223372036854775807 := by omega
          have e2 : -9223372036854775808 ≤ -(P) * 65536 + -(d) ∧ -(P) * 65536 + -(d) ≤ 9223372036854775807 := by omega
          have w1 : IntKind.i64.wrap (-(P) * 65536) = -(P) * 65536 := by rw [IntKind.wrap_i64]; omega
          have w2 : IntKind.i64.wrap (-(P) * 65536 + -(d)) = -(P) * 65536 + -(d) := by rw [IntKind.wrap_i64]; omega
          have e3 : -(P) * 65536 + -(d) = -(Q) := by omega
          have E3 := Lib.hid e3
          have HD := Lib.hid dd
          have HE := Lib.hid e2
          clear e3 t0 t1 t2 st dd hyy g0 g1 g2 g3 h0 h1 hj0 hi hj
          have hk3 : (k : Int) ≤ 3 := by omega
          go_wp2_with (go_at_call 18; refine (dg.out _ (by first | exact hBr | exact hBr.drew)).mono ?_; rintro e w9 ⟨rfl, hb⟩; have b9 : Below wc.heap.size wc w9 := below_step (by first | exact hBc | exact hBc.drew) hb; have b8 : Below w.heap.size w w9 := below_step (by first | exact hBr | exact hBr.drew) hb; have k0 := (b9.cell (p := ⟨w.heap.size, 0, none⟩) lt0).trans a0; have k1 := (b9.cell (p := ⟨w.heap.size, 1, none⟩) lt0).trans a1)
          go_roundw
          case rel => exact ⟨k, -(P) * 65536 + -(d), (k : Int) - 1, by omega, by go_num, by first | go_num | exact congrArg _ w2 | (have h5 := HD.out; have h6 := HE.out; unfold wrap64; congr 1; omega), by omega, Lib.hid (by rw [HQ.out]; exact E3.out), b8, b9⟩
          case measure => simp [intOf] <;> omega
end Go.Proofs.Ytlfchlholabijaa
