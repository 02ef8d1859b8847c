/- umbralaw01.WideDivides: the walk. -/
import Derived.Test.YtgggngcgcpmkbaaRW
import Derived.Test.YtgggngcgcpmkbaaRX
import Derived.Test.YtgggngcgcpmkbaaWI
import Derived.Test.YtgggngcgcpmkbaaWG
import Derived.Deep.DeepCutAuto
import Derived.Deep.RegionHeld3
namespace Go.Proofs.Ytgggngcgcpmkbaa
set_option linter.unusedVariables false
set_option maxRecDepth 2000
set_option linter.unusedSimpArgs false
open Go.RowKit
attribute [local go_sem] setCell_twice setCell_pair
attribute [local go_sem ↓] eqW neqW

set_option maxHeartbeats 8000000 in
theorem Divides_core (ah al d x qh ql r th tl z pw q2 : Int) (ok : Bool) (m k : Nat) (hx : (if x < 0 then 0 else x) = (m : Int)) (hy : (if 200 < (m : Int) then 200 else (m : Int)) = (k : Int)) (w : World)
    (dv : Hid (∀ w, Calls Try.prog 42 #[(.agg #[.int .i64 ah, .int .u64 al]), .int .i64 d] w fun e w' => e = .returned (.tuple #[(.agg #[.int .i64 qh, .int .u64 ql]), .int .i64 r, .bool ok]) ∧ Below w.heap.size w w')) (rd : Hid (∀ w, Calls Try.prog 43 #[(.agg #[.int .i64 ah, .int .u64 al]), .int .i64 d] w fun e w' => e = .returned (.tuple #[(.agg #[.int .i64 qh, .int .u64 ql]), .int .i64 r, .bool ok]) ∧ Below w.heap.size w w'))
    (wi : Hid (∀ w, Calls Try.prog 35 #[(.agg #[.int .i64 ah, .int .u64 al])] w (NumE w z)))
    (po : Hid (∀ w, Calls Try.prog 45 #[.int .i64 k] w (NumE w pw)))
    (qu : Hid (∀ u v w, NumR w u z → NumR w v pw → Calls Try.prog 44 #[u, v] w fun e w' => ∃ v1 v2, e = .returned (.tuple #[v1, v2]) ∧ NumR w' v1 q2 ∧ (∃ r, NumR w' v2 r) ∧ Below w.heap.size w w'))
    (tw : Hid (∀ v w, NumR w v q2 → Calls Try.prog 31 #[v] w fun e w' => e = .returned (.tuple #[(.agg #[.int .i64 th, .int .u64 tl]), .bool true]) ∧ Below w.heap.size w w'))
    (sh : Hid (∀ w, Calls Try.prog 46 #[(.agg #[.int .i64 ah, .int .u64 al]), .int .i64 x] w fun e w' => e = .returned (.agg #[.int .i64 th, .int .u64 tl]) ∧ Below w.heap.size w w'))
    (wk : Hid (∀ w, Calls Try.prog 37 #[] w fun e w' => e = .returned (.bool true) ∧ Below w.heap.size w w')) :
    Calls Try.prog 11 #[(.agg #[.int .i64 ah, .int .u64 al]), .int .i64 d, .int .i64 x] w fun e w' => e = .returned (.bool true) ∧ Below w.heap.size w w' := by
  have e1 : eqB qh ql qh ql = true := by simp [eqB]
  have e2 : eqB th tl th tl = true := by simp [eqB]
  go_enter Try.func11, Try.ntmps11
  go_wp2_with (fail)
  obtain ⟨W0, hW⟩ : ∃ W0, W0 = (w.alloc (.cells #[.int .i64 ah, .int .u64 al] 50)) := ⟨_, rfl⟩
  have hB0 : Below w.heap.size w W0 := hW ▸ (Below.al (Below.refl _ _))
  have HA : Hid (Own w.heap.size [.int .i64 ah, .int .u64 al] W0) := Lib.hid (hW ▸ (Own.newAt (by simp)))
  rw [← hW]
  clear hW
  obtain ⟨A, eA⟩ : ∃ X, X = w.heap.size := ⟨_, rfl⟩
  rw [← eA] at HA ⊢
  have Aw : w.heap.size ≤ A := by omega
  clear eA
  go_at_call 42; refine (dv.out _).mono ?_; rintro e w1 ⟨rfl, hb⟩
  replace HA := Lib.hid (HA.out.later hb)
  have hB1 := Below.go hB0 hb
  clear hb hB0
  go_upto_region 2 with fail
  obtain ⟨U1, hW⟩ : ∃ U1, U1 = (w1.alloc (.cells #[.int .i64 qh, .int .u64 ql] 50)) := ⟨_, rfl⟩
  have hq : Below w1.heap.size w1 U1 := hW ▸ (Below.al (Below.refl _ _))
  have HQ : Hid (Own w1.heap.size [.int .i64 qh, .int .u64 ql] U1) := Lib.hid (hW ▸ (Own.newAt (by simp)))
  rw [← hW]
  clear hW
  obtain ⟨Q, eQ⟩ : ∃ X, X = w1.heap.size := ⟨_, rfl⟩
  rw [← eQ] at HQ ⊢
  have Qw : w1.heap.size ≤ Q := by omega
  clear eQ
  replace HA := Lib.hid (HA.out.later hq)
  have hC1 := Below.go hB1 hq
  clear hq hB1 Qw
  have oA := HA.out
  have A0 := oA.at 0 _ rfl
  have A1 := oA.at 1 _ rfl
  have Al := oA.lt
  clear oA
  go_wp2_with (fail)
  clear A0 A1 Al
  go_at_call 43; refine (rd.out _).mono ?_; rintro e w2 ⟨rfl, hb⟩
  replace HA := Lib.hid (HA.out.later hb)
  replace HQ := Lib.hid (HQ.out.later hb)
  have hB2 := Below.go hC1 hb
  clear hb hC1
  go_upto_region 3 with fail
  obtain ⟨U2, hW⟩ : ∃ U2, U2 = (w2.alloc (.cells #[.int .i64 qh, .int .u64 ql] 50)) := ⟨_, rfl⟩
  have hq : Below w2.heap.size w2 U2 := hW ▸ (Below.al (Below.refl _ _))
  have HP : Hid (Own w2.heap.size [.int .i64 qh, .int .u64 ql] U2) := Lib.hid (hW ▸ (Own.newAt (by simp)))
  rw [← hW]
  clear hW
  obtain ⟨P, eP⟩ : ∃ X, X = w2.heap.size := ⟨_, rfl⟩
  rw [← eP] at HP ⊢
  have Pw : w2.heap.size ≤ P := by omega
  clear eP
  replace HA := Lib.hid (HA.out.later hq)
  replace HQ := Lib.hid (HQ.out.later hq)
  have hC2 := Below.go hB2 hq
  clear hq hB2 Pw
  have oA := HA.out
  have A0 := oA.at 0 _ rfl
  have A1 := oA.at 1 _ rfl
  have Al := oA.lt
  clear oA
  go_wp2_with (fail)
  clear A0 A1 Al
  go_at_call 35; refine (wi.out _).mono ?_; rintro e w3 ⟨u3, rfl, hu, hb⟩
  replace HA := Lib.hid (HA.out.later hb)
  replace HQ := Lib.hid (HQ.out.later hb)
  replace HP := Lib.hid (HP.out.later hb)
  have hB3 := Below.go hC2 hb
  clear hb hC2
  go_wp2_with (fail)
  go_at_call 45; refine (po.out _).mono ?_; rintro e w4 ⟨v4, rfl, hv, hb⟩
  replace HA := Lib.hid (HA.out.later hb)
  replace HQ := Lib.hid (HQ.out.later hb)
  replace HP := Lib.hid (HP.out.later hb)
  replace hu := hu.later hb (Nat.le_refl _)
  have hB4 := Below.go hB3 hb
  clear hb hB3
  go_wp2_with (fail)
  go_at_call 44; refine (qu.out _ _ _ hu hv).mono ?_; rintro e w5 ⟨v1, v2, rfl, h1, ⟨r2, h2⟩, hb⟩
  replace HA := Lib.hid (HA.out.later hb)
  replace HQ := Lib.hid (HQ.out.later hb)
  replace HP := Lib.hid (HP.out.later hb)
  have hB5 := Below.go hB4 hb
  clear hb hB4
  obtain ⟨b1, p1, n1, c1, rfl⟩ := h1.form
  obtain ⟨b2, p2, n2, c2, rfl⟩ := h2.form
  clear hu hv h2
  go_upto_region 5 with fail
  obtain ⟨U5, hW⟩ : ∃ U5, U5 = ((w5.alloc (.cells #[.bool b1, .slice p1 n1 c1] 55)).alloc (.cells #[.bool b2, .slice p2 n2 c2] 55)) := ⟨_, rfl⟩
  have hq : Below w5.heap.size w5 U5 := hW ▸ (Below.al (Below.al (Below.refl _ _)))
  have HT : Hid (Own w5.heap.size [.bool b1, .slice p1 n1 c1] U5) := Lib.hid (hW ▸ (Own.newAt (by simp)).alloc)
  have HL : Hid (Own (w5.heap.size + 1) [.bool b2, .slice p2 n2 c2] U5) := Lib.hid (hW ▸ (Own.newAt (by simp)))
  rw [← hW]
  clear hW
  obtain ⟨L, eL⟩ : ∃ X, X = (w5.heap.size + 1) := ⟨_, rfl⟩
  rw [← eL] at HL ⊢
  have Lw : w5.heap.size ≤ L := by omega
  obtain ⟨T, eT⟩ : ∃ X, X = w5.heap.size := ⟨_, rfl⟩
  rw [← eT] at HT ⊢
  have Tw : w5.heap.size ≤ T := by omega
  have nTL : T ≠ L := by omega
  have nLT : L ≠ T := by omega
  clear eT eL
  replace HA := Lib.hid (HA.out.later hq)
  replace HQ := Lib.hid (HQ.out.later hq)
  replace HP := Lib.hid (HP.out.later hq)
  replace h1 := h1.later hq (Nat.le_refl _)
  have hC5 := Below.go hB5 hq
  clear hq hB5 Tw Lw
  clear nTL nLT
  have oT := HT.out
  have T0 := oT.at 0 _ rfl
  have T1 := oT.at 1 _ rfl
  have Tl := oT.lt
  clear oT
  go_wp2_with (fail)
  clear T0 T1 Tl
  go_at_call 31; refine (tw.out _ _ h1).mono ?_; rintro e w6 ⟨rfl, hb⟩
  replace HA := Lib.hid (HA.out.later hb)
  replace HQ := Lib.hid (HQ.out.later hb)
  replace HP := Lib.hid (HP.out.later hb)
  replace HT := Lib.hid (HT.out.later hb)
  replace HL := Lib.hid (HL.out.later hb)
  have hB6 := Below.go hC5 hb
  clear hb hC5
  clear h1
  go_upto_region 6 with fail
  obtain ⟨U6, hW⟩ : ∃ U6, U6 = (w6.alloc (.cells #[.int .i64 th, .int .u64 tl] 50)) := ⟨_, rfl⟩
  have hq : Below w6.heap.size w6 U6 := hW ▸ (Below.al (Below.refl _ _))
  have HM : Hid (Own w6.heap.size [.int .i64 th, .int .u64 tl] U6) := Lib.hid (hW ▸ (Own.newAt (by simp)))
  rw [← hW]
  clear hW
  obtain ⟨M, eM⟩ : ∃ X, X = w6.heap.size := ⟨_, rfl⟩
  rw [← eM] at HM ⊢
  have Mw : w6.heap.size ≤ M := by omega
  clear eM
  replace HA := Lib.hid (HA.out.later hq)
  replace HQ := Lib.hid (HQ.out.later hq)
  replace HP := Lib.hid (HP.out.later hq)
  replace HT := Lib.hid (HT.out.later hq)
  replace HL := Lib.hid (HL.out.later hq)
  have hC6 := Below.go hB6 hq
  clear hq hB6 Mw
  have hBd : Below U6.heap.size U6 U6.drew := (Below.refl _ _).drew
  have SH : Hid (∀ w', Below U6.heap.size U6 w' → w'.cell? ⟨Q, 0, none⟩ = some (.int .i64 qh) ∧ w'.cell? ⟨Q, 1, none⟩ = some (.int .u64 ql) ∧ w'.cell? ⟨P, 0, none⟩ = some (.int .i64 qh) ∧ w'.cell? ⟨P, 1, none⟩ = some (.int .u64 ql) ∧ w'.cell? ⟨A, 0, none⟩ = some (.int .i64 ah) ∧ w'.cell? ⟨A, 1, none⟩ = some (.int .u64 al) ∧ w'.cell? ⟨M, 0, none⟩ = some (.int .i64 th) ∧ w'.cell? ⟨M, 1, none⟩ = some (.int .u64 tl)) := Lib.hid fun w' hb => ⟨(HQ.out.later hb).at 0 _ rfl, (HQ.out.later hb).at 1 _ rfl, (HP.out.later hb).at 0 _ rfl, (HP.out.later hb).at 1 _ rfl, (HA.out.later hb).at 0 _ rfl, (HA.out.later hb).at 1 _ rfl, (HM.out.later hb).at 0 _ rfl, (HM.out.later hb).at 1 _ rfl⟩
  go_region_held3 (fun w' => w'.cell? ⟨Q, 0, none⟩ = some (.int .i64 qh) ∧ w'.cell? ⟨Q, 1, none⟩ = some (.int .u64 ql) ∧ w'.cell? ⟨P, 0, none⟩ = some (.int .i64 qh) ∧ w'.cell? ⟨P, 1, none⟩ = some (.int .u64 ql) ∧ w'.cell? ⟨A, 0, none⟩ = some (.int .i64 ah) ∧ w'.cell? ⟨A, 1, none⟩ = some (.int .u64 al) ∧ w'.cell? ⟨M, 0, none⟩ = some (.int .i64 th) ∧ w'.cell? ⟨M, 1, none⟩ = some (.int .u64 tl)) (first | exact SH.out _ (by assumption) | exact SH.out _ (Below.al (by assumption))) (first | (go_at_call 46; (with_reducible refine (sh.out _).mono ?_); rintro e w7 ⟨rfl, h1⟩; have bw7 : Below U6.heap.size U6 w7 := Below.go hBd h1; clear h1) | (go_at_call 37; (with_reducible refine (wk.out _).mono ?_); rintro e w8 ⟨rfl, h1⟩; have bw8 : Below U6.heap.size U6 w8 := Below.go bw7 h1; clear h1))
  have hB8 := Below.go hC6 bw8
  clear hC6 hBd bw7 bw8 SH HQ HP HA HM HT HL dv rd wi po qu tw sh wk
  go_wp2
  go_ret
  exact ⟨rfl, hB8⟩
theorem mul_ge (D q : Int) (hD : 1 ≤ D) (hq : 0 ≤ q) : q ≤ D * q := by
  have := Int.mul_le_mul_of_nonneg_right hD hq
  omega
theorem q_bd1 (Z D q s : Int) (e : Z = D * q + s) (hD : 1 ≤ D) (s0 : 0 ≤ s) (s1 : s < D) (z0 : -170141183460469231731687303715884105728 ≤ Z) (z1 : Z ≤ 170141183460469231731687303715884105728) : -170141183460469231731687303715884105728 ≤ q ∧ q ≤ 170141183460469231731687303715884105728 := by
  refine ⟨Int.not_lt.1 fun h => ?_, Int.not_lt.1 fun h => ?_⟩
  · have := mul_ge D (-(q + 1)) hD (by omega)
    rw [Int.mul_neg, Int.mul_add] at this
    omega
  · have := mul_ge D q hD (by omega)
    omega
theorem q_bound (z d q r : Int) (e : z = d * q + r) (hd : d ≠ 0) (hp : 0 < d → 0 ≤ r ∧ r < d) (hm : d < 0 → d < r ∧ r ≤ 0) (z0 : -170141183460469231731687303715884105728 ≤ z) (z1 : z < 170141183460469231731687303715884105728) : -170141183460469231731687303715884105728 ≤ q ∧ q ≤ 170141183460469231731687303715884105728 := by
  rcases (show 0 < d ∨ d < 0 by omega) with h | h
  · exact q_bd1 z d q r e (by omega) (hp h).1 (hp h).2 z0 (by omega)
  · exact q_bd1 (-z) (-d) q (-r) (by rw [Int.neg_mul]; omega) (by omega) (by have := hm h; omega) (by have := hm h; omega) (by omega) (by omega)
theorem q_over (z d q r : Int) (e : z = d * q + r) (hd : d ≠ 0) (hp : 0 < d → 0 ≤ r ∧ r < d) (hm : d < 0 → d < r ∧ r ≤ 0) (z0 : -170141183460469231731687303715884105728 ≤ z) (z1 : z < 170141183460469231731687303715884105728) (hq : 170141183460469231731687303715884105728 ≤ q) : z = -170141183460469231731687303715884105728 ∧ d = -1 := by
  rcases (show 0 < d ∨ d < 0 by omega) with h | h
  · have a := mul_ge d q (by omega) (by omega)
    have := hp h
    omega
  · have x := hm h
    have a := mul_ge (-d) q (by omega) (by omega)
    by_cases c : d = -1
    · subst c
      omega
    · have b := mul_ge (-d - 1) q (by omega) (by omega)
      rw [Int.sub_mul, Int.neg_mul] at b
      rw [Int.neg_mul] at a
      omega
theorem exists_quo1 (z d : Int) (hd : d ≠ 0) : ∃ q r, z = d * q + r ∧ (0 < d → 0 ≤ r ∧ r < d) ∧ (d < 0 → d < r ∧ r ≤ 0) := by
  by_cases h : 0 < d
  · exact ⟨z / d, z % d, (Int.mul_ediv_add_emod z d).symm, fun _ => ⟨Int.emod_nonneg _ (by omega), Int.emod_lt_of_pos _ h⟩, by omega⟩
  · have e := Int.mul_ediv_add_emod (-z) (-d)
    have r0 := Int.emod_nonneg (-z) (show -d ≠ 0 by omega)
    have r1 := Int.emod_lt_of_pos (-z) (show 0 < -d by omega)
    refine ⟨-z / -d, -(-z % -d), ?_, by omega, fun _ => ⟨by omega, by omega⟩⟩
    rw [Int.neg_mul] at e
    generalize d * (-z / -d) = P at *
    omega
theorem Divides_walk (ah al d x : Int) (bh : -9223372036854775808 ≤ ah ∧ ah ≤ 9223372036854775807) (bl : 0 ≤ al ∧ al ≤ 18446744073709551615) (bd : -9223372036854775808 ≤ d ∧ d ≤ 9223372036854775807) (bx : -9223372036854775808 ≤ x ∧ x ≤ 9223372036854775807) (w : World) :
    Calls Try.prog 11 #[(.agg #[.int .i64 ah, .int .u64 al]), .int .i64 d, .int .i64 x] w fun e w' => e = .returned (.bool true) ∧ Below w.heap.size w w' := by
  obtain ⟨z, hz⟩ : ∃ z, z = ah * 18446744073709551616 + al := ⟨_, rfl⟩
  have eh : hi z = ah := by unfold hi; omega
  have el : lo z = al := by unfold lo; omega
  have z0 : -170141183460469231731687303715884105728 ≤ z := by omega
  have z1 : z < 170141183460469231731687303715884105728 := by omega
  have wi := fun w => wide_any z z0 z1 w
  rw [eh, el] at wi
  have shr := fun w => Shr_law ah al x bh.1 bh.2 bl.1 bl.2 bx.2 w
  rw [← hz] at shr
  have hx : (if x < 0 then 0 else x) = (x.toNat : Int) := by split <;> omega
  have hy : (if 200 < (x.toNat : Int) then 200 else (x.toNat : Int)) = ((min x.toNat 200 : Nat) : Int) := by split <;> omega
  have hk : min x.toNat 200 ≤ 200 := by omega
  generalize min x.toNat 200 = k at *
  generalize x.toNat = m at *
  have pk : (1 : Int) ≤ 2 ^ k ∧ (2 : Int) ^ k ≤ 2 ^ 200 := by
    have a := two_pos k
    refine ⟨by omega, ?_⟩
    rw [two_cast, two_cast]
    have : 2 ^ k ≤ 2 ^ 200 := Nat.pow_le_pow_right (by omega) hk
    exact Int.ofNat_le.2 this
  have po := fun w => power_any k (by omega) w
  have pbig : (2 : Int) ^ 200 < SMALL := by unfold SMALL; decide
  generalize (2 : Int) ^ 200 = big at *
  generalize (2 : Int) ^ k = pw at *
  have sm : (z.natAbs : Int) < SMALL := by unfold SMALL; omega
  have zq : -170141183460469231731687303715884105728 ≤ z / pw ∧ z / pw < 170141183460469231731687303715884105728 := by
    have hq := Int.mul_ediv_add_emod z pw
    have r0 := Int.emod_nonneg z (show pw ≠ 0 by omega)
    have r1 := Int.emod_lt_of_pos z (show 0 < pw by omega)
    by_cases c : z < 0
    · have q1 : z / pw < 0 := Int.ediv_neg_of_neg_of_pos c (by omega)
      have q2 : z ≤ z / pw := by
        have := Int.mul_le_mul_of_nonneg_left (show z / pw ≤ -1 by omega) (show 0 ≤ pw - 1 by omega)
        rw [Int.sub_mul, Int.sub_mul, Int.one_mul] at this
        omega
      omega
    · have q1 : 0 ≤ z / pw := Int.ediv_nonneg (by omega) (by omega)
      have q2 : z / pw ≤ z := Int.ediv_le_self _ (by omega)
      omega
  have qu : ∀ u v w, NumR w u z → NumR w v pw → Calls Try.prog 44 #[u, v] w fun e w' => ∃ v1 v2, e = .returned (.tuple #[v1, v2]) ∧ NumR w' v1 (z / pw) ∧ (∃ r, NumR w' v2 r) ∧ Below w.heap.size w w' := fun u v w hu hv =>
    (quotient_any u v z pw w hu hv (by omega) sm (by omega)).mono fun e w' ⟨v1, v2, q, r, he, n1, n2, eq, hp, hm, hb⟩ => by
      have := hp (by omega)
      have e2 : z / pw = q := ((Int.ediv_emod_unique (a := z) (b := pw) (r := r) (q := q) (by omega)).2 ⟨by omega, this.1, this.2⟩).1
      rw [e2]
      exact ⟨v1, v2, he, n1, ⟨r, n2⟩, hb⟩
  have tw : ∀ v w, NumR w v (z / pw) → Calls Try.prog 31 #[v] w fun e w' => e = .returned (.tuple #[(.agg #[.int .i64 (hi (z / pw)), .int .u64 (lo (z / pw))]), .bool true]) ∧ Below w.heap.size w w' := fun v w hv => by
    have := ToWide_v v (z / pw) w hv (by unfold SMALL; omega)
    rw [(inW_iff (z / pw)).2 zq] at this
    exact this
  obtain ⟨qh, ql, r, ok, dv, rd⟩ : ∃ (qh ql r : Int) (ok : Bool), (∀ w, Calls Try.prog 42 #[(.agg #[.int .i64 ah, .int .u64 al]), .int .i64 d] w fun e w' => e = .returned (.tuple #[(.agg #[.int .i64 qh, .int .u64 ql]), .int .i64 r, .bool ok]) ∧ Below w.heap.size w w') ∧ ∀ w, Calls Try.prog 43 #[(.agg #[.int .i64 ah, .int .u64 al]), .int .i64 d] w fun e w' => e = .returned (.tuple #[(.agg #[.int .i64 qh, .int .u64 ql]), .int .i64 r, .bool ok]) ∧ Below w.heap.size w w' := by
    by_cases hd : d = 0
    · subst hd
      exact ⟨0, 0, 0, false, fun w => Div_zero ah al w, fun w => RDiv_zero ah al w⟩
    · obtain ⟨q, r, e, hp, hm⟩ := exists_quo1 z d hd
      have hdb : (d == 0) = false := by simpa using hd
      have rb : -9223372036854775808 ≤ r ∧ r ≤ 9223372036854775807 := by
        rcases (show 0 < d ∨ d < 0 by omega) with h | h
        · have := hp h; omega
        · have := hm h; omega
      have qd : ∀ u v w, NumR w u z → NumR w v d → Calls Try.prog 44 #[u, v] w fun e w' => ∃ v1 v2, e = .returned (.tuple #[v1, v2]) ∧ NumR w' v1 q ∧ NumR w' v2 r ∧ Below w.heap.size w w' := fun u v w hu hv =>
        (quotient_any u v z d w hu hv hd sm (by unfold SMALL; omega)).mono fun _ w' ⟨v1, v2, q', r', he, n1, n2, eq, hp', hm', hb⟩ => by
          obtain ⟨rfl, rfl⟩ := div_uniq z d q r q' r' e eq hd hp hm hp' hm'
          exact ⟨v1, v2, he, n1, n2, hb⟩
      have ti : ∀ v w, NumR w v r → Calls Try.prog 34 #[v] w fun e w' => e = .returned (.tuple #[.int .i64 r, .bool true]) ∧ Below w.heap.size w w' := fun v w hv => by
        obtain ⟨b, p, n, c, rfl⟩ := hv.form
        exact ToInt_yes b p n c r w hv rb.1 rb.2
      have of := fun w => refOf_any d bd.1 bd.2 w
      have qb := q_bound z d q r e hd hp hm z0 z1
      by_cases hq : q < 170141183460469231731687303715884105728
      · have t2 : ∀ v w, NumR w v q → Calls Try.prog 31 #[v] w fun e w' => e = .returned (.tuple #[(.agg #[.int .i64 (hi q), .int .u64 (lo q)]), .bool true]) ∧ Below w.heap.size w w' := fun v w hv => by
          have := ToWide_v v q w hv (by unfold SMALL; omega)
          rw [(inW_iff q).2 ⟨qb.1, hq⟩] at this
          exact this
        have d2 := fun w => Div_yes z d q r z0 z1 bd.1 bd.2 e hp hm hd qb.1 hq w
        rw [eh, el] at d2
        exact ⟨hi q, lo q, r, true, d2, fun w => RDiv_yes ah al z d q r _ _ hdb w (Lib.hid wi) (Lib.hid of) (Lib.hid qd) (Lib.hid t2) (Lib.hid ti)⟩
      · have t2 : ∀ v w, NumR w v q → Calls Try.prog 31 #[v] w fun e w' => e = .returned (.tuple #[(.agg #[.int .i64 0, .int .u64 0]), .bool false]) ∧ Below w.heap.size w w' := fun v w hv => by
          have := ToWide_v v q w hv (by unfold SMALL; omega)
          rw [show inW q = false from Bool.eq_false_iff.2 fun h => hq ((inW_iff q).1 h).2] at this
          exact this
        obtain ⟨hzz, hdd⟩ := q_over z d q r e hd hp hm z0 z1 (by omega)
        refine ⟨0, 0, 0, false, fun w => ?_, fun w => RDiv_no ah al z d q r _ _ hdb w (Lib.hid wi) (Lib.hid of) (Lib.hid qd) (Lib.hid t2) (Lib.hid ti)⟩
        have := Div_no w
        rw [← hzz, eh, el] at this
        rw [hdd]
        exact this
  exact Divides_core ah al d x qh ql r (hi (z / pw)) (lo (z / pw)) z pw (z / pw) ok m k hx hy w (Lib.hid dv) (Lib.hid rd) (Lib.hid wi) (Lib.hid po) (Lib.hid qu) (Lib.hid tw) (Lib.hid shr) (Lib.hid works_any)
end Go.Proofs.Ytgggngcgcpmkbaa
