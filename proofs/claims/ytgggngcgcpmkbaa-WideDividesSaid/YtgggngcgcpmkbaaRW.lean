/- umbraref01.Div: the quotient of the document. -/
import Derived.Test.YtgggngcgcpmkbaaRU
import Derived.Deep.DeepCutAuto
namespace Go.Proofs.Ytgggngcgcpmkbaa
set_option linter.unusedVariables false
set_option maxRecDepth 2000
set_option linter.unusedSimpArgs false
open Go.RowKit
attribute [local go_sem] setCell_twice setCell_pair
theorem div_uniq (z d q r q' r' : Int) (e : z = d * q + r) (e' : z = d * q' + r') (hd : d ≠ 0) (hp : 0 < d → 0 ≤ r ∧ r < d) (hm : d < 0 → d < r ∧ r ≤ 0) (hp' : 0 < d → 0 ≤ r' ∧ r' < d) (hm' : d < 0 → d < r' ∧ r' ≤ 0) : q' = q ∧ r' = r := by
  by_cases h : 0 < d
  · have a := (Int.ediv_emod_unique (a := z) (b := d) (r := r) (q := q) h).2 ⟨by omega, (hp h).1, (hp h).2⟩
    have b := (Int.ediv_emod_unique (a := z) (b := d) (r := r') (q := q') h).2 ⟨by omega, (hp' h).1, (hp' h).2⟩
    exact ⟨b.1.symm.trans a.1, b.2.symm.trans a.2⟩
  · have h2 : d < 0 := by omega
    have h3 : 0 < -d := by omega
    have x := hm h2
    have x' := hm' h2
    have a := (Int.ediv_emod_unique (a := -z) (b := -d) (r := -r) (q := q) h3).2 ⟨by rw [Int.neg_mul]; omega, by omega, by omega⟩
    have b := (Int.ediv_emod_unique (a := -z) (b := -d) (r := -r') (q := q') h3).2 ⟨by rw [Int.neg_mul]; omega, by omega, by omega⟩
    exact ⟨b.1.symm.trans a.1, by have := b.2.symm.trans a.2; omega⟩
theorem RDiv_zero (h l : Int) (w : World) : Calls Try.prog 43 #[(.agg #[.int .i64 h, .int .u64 l]), .int .i64 0] w fun e w' => e = .returned (.tuple #[(.agg #[.int .i64 0, .int .u64 0]), .int .i64 0, .bool false]) ∧ Below w.heap.size w w' := by
  go_enter Try.func43, Try.ntmps43
  go_wp2
  exact bodyPost_ret (v := (.tuple #[(.agg #[.int .i64 0, .int .u64 0]), .int .i64 0, .bool false])) (by simp [results, Try.results43, go_sem]) rfl ⟨rfl, (by repeat (first | (with_reducible exact Below.refl _ _) | (with_reducible assumption) | (with_reducible refine below_drewN ?_ _) | (with_reducible refine Below.drew ?_) | (with_reducible refine Below.alloc ?_ ?_ _) | (with_reducible refine Below.setCell ?_ ?_ _) | (with_reducible exact Nat.le_refl _) | exact Nat.le_succ _ | (simp; done) | (simp; omega) | omega | fail))⟩

set_option maxHeartbeats 4000000 in
theorem RDiv_no (h l z d q r qh ql : Int) (hd : (d == 0) = false) (w : World)
    (wi : Hid (∀ w, Calls Try.prog 35 #[(.agg #[.int .i64 h, .int .u64 l])] w (NumE w z)))
    (of : Hid (∀ w, Calls Try.prog 32 #[.int .i64 d] w (NumE w d)))
    (qu : Hid (∀ u v w, NumR w u z → NumR w v d → Calls Try.prog 44 #[u, v] w fun e w' => ∃ v1 v2, e = .returned (.tuple #[v1, v2]) ∧ NumR w' v1 q ∧ NumR w' v2 r ∧ Below w.heap.size w w'))
    (tw : Hid (∀ v w, NumR w v q → Calls Try.prog 31 #[v] w fun e w' => e = .returned (.tuple #[(.agg #[.int .i64 qh, .int .u64 ql]), .bool false]) ∧ Below w.heap.size w w'))
    (ti : Hid (∀ v w, NumR w v r → Calls Try.prog 34 #[v] w fun e w' => e = .returned (.tuple #[.int .i64 r, .bool true]) ∧ Below w.heap.size w w')) :
    Calls Try.prog 43 #[(.agg #[.int .i64 h, .int .u64 l]), .int .i64 d] w fun e w' => e = .returned (.tuple #[(.agg #[.int .i64 0, .int .u64 0]), .int .i64 0, .bool false]) ∧ Below w.heap.size w w' := by
  go_enter Try.func43, Try.ntmps43
  go_wp2_with (fail)
  obtain ⟨W0, hW⟩ : ∃ W0, W0 = ((w.alloc (.cells #[.int .i64 h, .int .u64 l] 50)).alloc (.cells #[.int .i64 0, .int .u64 0] 50)) := ⟨_, rfl⟩
  have hB0 : Below w.heap.size w W0 := hW ▸ (Below.al (Below.al (Below.refl _ _)))
  have HA : Hid (Own w.heap.size [.int .i64 h, .int .u64 l] W0) := Lib.hid (hW ▸ (Own.newAt (by simp)).alloc)
  have HR : Hid (Own (w.heap.size + 1) [.int .i64 0, .int .u64 0] W0) := Lib.hid (hW ▸ (Own.newAt (by simp)))
  rw [← hW]
  clear hW
  obtain ⟨R, eR⟩ : ∃ X, X = (w.heap.size + 1) := ⟨_, rfl⟩
  rw [← eR] at HR ⊢
  have Rw : w.heap.size ≤ R := by omega
  obtain ⟨A, eA⟩ : ∃ X, X = w.heap.size := ⟨_, rfl⟩
  rw [← eA] at HA ⊢
  have Aw : w.heap.size ≤ A := by omega
  have nAR : A ≠ R := by omega
  have nRA : R ≠ A := by omega
  clear eA eR
  go_at_call 35; refine (wi.out _).mono ?_; rintro e w1 ⟨u1, rfl, hu, hb⟩
  replace HR := Lib.hid (HR.out.later hb)
  have hB1 := Below.go hB0 hb
  clear hb hB0 HA
  go_wp2_with (fail)
  go_at_call 32; refine (of.out _).mono ?_; rintro e w2 ⟨u2, rfl, hv, hb⟩
  replace HR := Lib.hid (HR.out.later hb)
  replace hu := hu.later hb (Nat.le_refl _)
  have hB2 := Below.go hB1 hb
  clear hb hB1
  go_wp2_with (fail)
  go_at_call 44; refine (qu.out _ _ _ hu hv).mono ?_; rintro e w3 ⟨v1, v2, rfl, h1, h2, hb⟩
  obtain ⟨b1, p1, n1, c1, rfl⟩ := h1.form
  obtain ⟨b2, p2, n2, c2, rfl⟩ := h2.form
  replace HR := Lib.hid (HR.out.later hb)
  have hB3 := Below.go hB2 hb
  clear hb hB2 hu hv
  go_upto_region 4 with fail
  obtain ⟨W4, hW⟩ : ∃ W4, W4 = ((w3.alloc (.cells #[.bool b1, .slice p1 n1 c1] 55)).alloc (.cells #[.bool b2, .slice p2 n2 c2] 55)) := ⟨_, rfl⟩
  have hq : Below w3.heap.size w3 W4 := hW ▸ (Below.al (Below.al (Below.refl _ _)))
  have HQ : Hid (Own w3.heap.size [.bool b1, .slice p1 n1 c1] W4) := Lib.hid (hW ▸ (Own.newAt (by simp)).alloc)
  have HL : Hid (Own (w3.heap.size + 1) [.bool b2, .slice p2 n2 c2] W4) := Lib.hid (hW ▸ (Own.newAt (by simp)))
  rw [← hW]
  clear hW
  obtain ⟨L, eL⟩ : ∃ X, X = (w3.heap.size + 1) := ⟨_, rfl⟩
  rw [← eL] at HL ⊢
  have Lw : w3.heap.size ≤ L := by omega
  obtain ⟨Q, eQ⟩ : ∃ X, X = w3.heap.size := ⟨_, rfl⟩
  rw [← eQ] at HQ ⊢
  have Qw : w3.heap.size ≤ Q := by omega
  have nQL : Q ≠ L := by omega
  have nLQ : L ≠ Q := by omega
  clear eQ eL
  replace HR := Lib.hid (HR.out.later hq)
  replace h1 := h1.later hq (Nat.le_refl _)
  replace h2 := h2.later hq (Nat.le_refl _)
  have hB4 := Below.go hB3 hq
  clear hq hB3 Qw Lw nQL nLQ
  have oQ := HQ.out
  have Q0 := oQ.at 0 _ rfl
  have Q1 := oQ.at 1 _ rfl
  have Ql := oQ.lt
  clear oQ
  go_wp2_with (fail)
  clear Q0 Q1 Ql
  go_at_call 31; refine (tw.out _ _ h1).mono ?_; rintro e w5 ⟨rfl, hb⟩
  replace HR := Lib.hid (HR.out.later hb); replace HL := Lib.hid (HL.out.later hb)
  replace h2 := h2.later hb (Nat.le_refl _)
  have hB5 := Below.go hB4 hb
  clear hb hB4 h1 HQ
  go_upto_region 6 with fail
  obtain ⟨W6, hW⟩ : ∃ W6, W6 = (w5.alloc (.cells #[.int .i64 qh, .int .u64 ql] 50)) := ⟨_, rfl⟩
  have hq : Below w5.heap.size w5 W6 := hW ▸ (Below.al (Below.refl _ _))
  have HM : Hid (Own w5.heap.size [.int .i64 qh, .int .u64 ql] W6) := Lib.hid (hW ▸ (Own.newAt (by simp)))
  rw [← hW]
  clear hW
  obtain ⟨M, eM⟩ : ∃ X, X = w5.heap.size := ⟨_, rfl⟩
  rw [← eM] at HM ⊢
  have Mw : w5.heap.size ≤ M := by omega
  clear eM
  replace HR := Lib.hid (HR.out.later hq)
  have hB6 := Below.go hB5 hq
  clear hq hB5 Mw
  have oR := HR.out
  have R0 := oR.at 0 _ rfl
  have Rf0 := oR.ok 0 (by simp)
  have R1 := oR.at 1 _ rfl
  have Rf1 := oR.ok 1 (by simp)
  have Rl := oR.lt
  clear oR
  go_wp2
  exact bodyPost_ret (v := (.tuple #[(.agg #[.int .i64 0, .int .u64 0]), .int .i64 0, .bool false])) (by simp [results, Try.results43, go_sem, R0, R1, Rf0, Rf1]) rfl ⟨rfl, (by repeat (first | (with_reducible exact Below.refl _ _) | (with_reducible assumption) | (with_reducible refine below_drewN ?_ _) | (with_reducible refine Below.drew ?_) | (with_reducible refine Below.alloc ?_ ?_ _) | (with_reducible refine Below.setCell ?_ ?_ _) | (with_reducible exact Nat.le_refl _) | exact Nat.le_succ _ | (simp; done) | (simp; omega) | omega | fail))⟩

set_option maxHeartbeats 4000000 in
theorem RDiv_yes (h l z d q r qh ql : Int) (hd : (d == 0) = false) (w : World)
    (wi : Hid (∀ w, Calls Try.prog 35 #[(.agg #[.int .i64 h, .int .u64 l])] w (NumE w z)))
    (of : Hid (∀ w, Calls Try.prog 32 #[.int .i64 d] w (NumE w d)))
    (qu : Hid (∀ u v w, NumR w u z → NumR w v d → Calls Try.prog 44 #[u, v] w fun e w' => ∃ v1 v2, e = .returned (.tuple #[v1, v2]) ∧ NumR w' v1 q ∧ NumR w' v2 r ∧ Below w.heap.size w w'))
    (tw : Hid (∀ v w, NumR w v q → Calls Try.prog 31 #[v] w fun e w' => e = .returned (.tuple #[(.agg #[.int .i64 qh, .int .u64 ql]), .bool true]) ∧ Below w.heap.size w w'))
    (ti : Hid (∀ v w, NumR w v r → Calls Try.prog 34 #[v] w fun e w' => e = .returned (.tuple #[.int .i64 r, .bool true]) ∧ Below w.heap.size w w')) :
    Calls Try.prog 43 #[(.agg #[.int .i64 h, .int .u64 l]), .int .i64 d] w fun e w' => e = .returned (.tuple #[(.agg #[.int .i64 qh, .int .u64 ql]), .int .i64 r, .bool true]) ∧ Below w.heap.size w w' := by
  go_enter Try.func43, Try.ntmps43
  go_wp2_with (fail)
  obtain ⟨W0, hW⟩ : ∃ W0, W0 = ((w.alloc (.cells #[.int .i64 h, .int .u64 l] 50)).alloc (.cells #[.int .i64 0, .int .u64 0] 50)) := ⟨_, rfl⟩
  have hB0 : Below w.heap.size w W0 := hW ▸ (Below.al (Below.al (Below.refl _ _)))
  have HA : Hid (Own w.heap.size [.int .i64 h, .int .u64 l] W0) := Lib.hid (hW ▸ (Own.newAt (by simp)).alloc)
  have HR : Hid (Own (w.heap.size + 1) [.int .i64 0, .int .u64 0] W0) := Lib.hid (hW ▸ (Own.newAt (by simp)))
  rw [← hW]
  clear hW
  obtain ⟨R, eR⟩ : ∃ X, X = (w.heap.size + 1) := ⟨_, rfl⟩
  rw [← eR] at HR ⊢
  have Rw : w.heap.size ≤ R := by omega
  obtain ⟨A, eA⟩ : ∃ X, X = w.heap.size := ⟨_, rfl⟩
  rw [← eA] at HA ⊢
  have Aw : w.heap.size ≤ A := by omega
  have nAR : A ≠ R := by omega
  have nRA : R ≠ A := by omega
  clear eA eR
  go_at_call 35; refine (wi.out _).mono ?_; rintro e w1 ⟨u1, rfl, hu, hb⟩
  replace HR := Lib.hid (HR.out.later hb)
  have hB1 := Below.go hB0 hb
  clear hb hB0 HA
  go_wp2_with (fail)
  go_at_call 32; refine (of.out _).mono ?_; rintro e w2 ⟨u2, rfl, hv, hb⟩
  replace HR := Lib.hid (HR.out.later hb)
  replace hu := hu.later hb (Nat.le_refl _)
  have hB2 := Below.go hB1 hb
  clear hb hB1
  go_wp2_with (fail)
  go_at_call 44; refine (qu.out _ _ _ hu hv).mono ?_; rintro e w3 ⟨v1, v2, rfl, h1, h2, hb⟩
  obtain ⟨b1, p1, n1, c1, rfl⟩ := h1.form
  obtain ⟨b2, p2, n2, c2, rfl⟩ := h2.form
  replace HR := Lib.hid (HR.out.later hb)
  have hB3 := Below.go hB2 hb
  clear hb hB2 hu hv
  go_upto_region 4 with fail
  obtain ⟨W4, hW⟩ : ∃ W4, W4 = ((w3.alloc (.cells #[.bool b1, .slice p1 n1 c1] 55)).alloc (.cells #[.bool b2, .slice p2 n2 c2] 55)) := ⟨_, rfl⟩
  have hq : Below w3.heap.size w3 W4 := hW ▸ (Below.al (Below.al (Below.refl _ _)))
  have HQ : Hid (Own w3.heap.size [.bool b1, .slice p1 n1 c1] W4) := Lib.hid (hW ▸ (Own.newAt (by simp)).alloc)
  have HL : Hid (Own (w3.heap.size + 1) [.bool b2, .slice p2 n2 c2] W4) := Lib.hid (hW ▸ (Own.newAt (by simp)))
  rw [← hW]
  clear hW
  obtain ⟨L, eL⟩ : ∃ X, X = (w3.heap.size + 1) := ⟨_, rfl⟩
  rw [← eL] at HL ⊢
  have Lw : w3.heap.size ≤ L := by omega
  obtain ⟨Q, eQ⟩ : ∃ X, X = w3.heap.size := ⟨_, rfl⟩
  rw [← eQ] at HQ ⊢
  have Qw : w3.heap.size ≤ Q := by omega
  have nQL : Q ≠ L := by omega
  have nLQ : L ≠ Q := by omega
  clear eQ eL
  replace HR := Lib.hid (HR.out.later hq)
  replace h1 := h1.later hq (Nat.le_refl _)
  replace h2 := h2.later hq (Nat.le_refl _)
  have hB4 := Below.go hB3 hq
  clear hq hB3 Qw Lw nQL nLQ
  have oQ := HQ.out
  have Q0 := oQ.at 0 _ rfl
  have Q1 := oQ.at 1 _ rfl
  have Ql := oQ.lt
  clear oQ
  go_wp2_with (fail)
  clear Q0 Q1 Ql
  go_at_call 31; refine (tw.out _ _ h1).mono ?_; rintro e w5 ⟨rfl, hb⟩
  replace HR := Lib.hid (HR.out.later hb); replace HL := Lib.hid (HL.out.later hb)
  replace h2 := h2.later hb (Nat.le_refl _)
  have hB5 := Below.go hB4 hb
  clear hb hB4 h1 HQ
  have Rlt := Lib.hid HR.out.lt
  go_upto_region 7 with fail
  obtain ⟨W6, hW⟩ : ∃ W6, W6 = (w5.alloc (.cells #[.int .i64 qh, .int .u64 ql] 50)) := ⟨_, rfl⟩
  have hq : Below w5.heap.size w5 W6 := hW ▸ (Below.al (Below.refl _ _))
  have HM : Hid (Own w5.heap.size [.int .i64 qh, .int .u64 ql] W6) := Lib.hid (hW ▸ (Own.newAt (by simp)))
  rw [← hW]
  clear hW
  obtain ⟨M, eM⟩ : ∃ X, X = w5.heap.size := ⟨_, rfl⟩
  rw [← eM] at HM ⊢
  have Mw : w5.heap.size ≤ M := by omega
  clear eM
  replace HR := Lib.hid (HR.out.later hq); replace HL := Lib.hid (HL.out.later hq)
  replace h2 := h2.later hq (Nat.le_refl _)
  have hB6 := Below.go hB5 hq
  have nRM : R ≠ M := by have := Rlt.out; omega
  clear hq hB5
  have oL := HL.out
  have L0 := oL.at 0 _ rfl
  have L1 := oL.at 1 _ rfl
  have Ll := oL.lt
  clear oL
  go_wp2_with (fail)
  clear L0 L1 Ll
  go_at_call 34; refine (ti.out _ _ h2).mono ?_; rintro e w7 ⟨rfl, hb⟩
  replace HR := Lib.hid (HR.out.later hb); replace HM := Lib.hid (HM.out.later hb)
  have hB7 := Below.go hB6 hb
  clear hb hB6 h2 HL
  have oR := HR.out
  have R0 := oR.at 0 _ rfl
  have Rf0 := oR.ok 0 (by simp)
  have R1 := oR.at 1 _ rfl
  have Rf1 := oR.ok 1 (by simp)
  have Rl := oR.lt
  clear oR
  have oM := HM.out
  have M0 := oM.at 0 _ rfl
  have M1 := oM.at 1 _ rfl
  have Ml := oM.lt
  clear oM
  go_wp2
  exact bodyPost_ret (v := (.tuple #[(.agg #[.int .i64 qh, .int .u64 ql]), .int .i64 r, .bool true])) (by simp [results, Try.results43, go_sem, R0, R1, Rf0, Rf1]) rfl ⟨rfl, (by repeat (first | (with_reducible exact Below.refl _ _) | (with_reducible assumption) | (with_reducible refine below_drewN ?_ _) | (with_reducible refine Below.drew ?_) | (with_reducible refine Below.alloc ?_ ?_ _) | (with_reducible refine Below.setCell ?_ ?_ _) | (with_reducible exact Nat.le_refl _) | exact Nat.le_succ _ | (simp; done) | (simp; omega) | omega | fail))⟩
end Go.Proofs.Ytgggngcgcpmkbaa
