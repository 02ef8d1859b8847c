/- The document's product of any two numbers, Clamp and MulDiv; umbralaw01.WideProducts: the walk. -/
import Derived.Test.YtlfchlholabijaaTB
import Derived.Test.YtlfchlholabijaaRW
import Derived.Test.YtlfchlholabijaaFA
import Derived.Deep.DeepCutAuto
import Derived.Deep.RegionHeld3
namespace Go.Proofs.Ytlfchlholabijaa
set_option linter.unusedVariables false
set_option maxRecDepth 2000
set_option linter.unusedSimpArgs false
open Go.RowKit
attribute [local go_sem] setCell_twice setCell_pair
attribute [local go_sem ↓] eqW neqW

theorem times_any (u v : Value) (y z : Int) (w : World) (hu : NumR w u y) (hv : NumR w v z) (y1 : (y.natAbs : Int) < BIG) (z1 : (z.natAbs : Int) < BIG) :
    Calls Try.prog 6 #[u, v] w (NumE w (y * z)) := by
  obtain ⟨ba, sa, da, rfl, ha, dga, ca, _, rfl⟩ := hu
  obtain ⟨bb, sb, db, rfl, hb, dgb, cb, _, rfl⟩ := hv
  have va := val_nonneg da fun i => (dga i).1
  have vb := val_nonneg db fun i => (dgb i).1
  have la := len_le da dga ca (by split at y1 <;> omega)
  have lb := len_le db dgb cb (by split at z1 <;> omega)
  obtain ⟨p, n, c, rfl⟩ := ha.form
  obtain ⟨q, m, d, rfl⟩ := hb.form
  have na := ha.len.1; have nb := hb.len.1
  exact times_core ba bb p q n c m d da db _ w ha hb (by omega) (by omega) dga dgb (sign_mul ba bb (val da) (val db))

set_option maxHeartbeats 4000000 in
theorem Clamp_in (ba : Bool) (p : Option Addr) (n c : Nat) (y : Int) (w : World) 
    (ti : Hid (∀ w', Below w.heap.size w w' → Calls Try.prog 17 #[.agg #[.bool ba, .slice p n c]] w' fun e w'' => e = .returned (.tuple #[.int .i64 y, .bool true]) ∧ Below w'.heap.size w' w'')) :
    Calls Try.prog 24 #[.agg #[.bool ba, .slice p n c]] w fun e w' => e = .returned (.int .i64 y) ∧ Below w.heap.size w w' := by
  go_enter Try.func24, Try.ntmps24
  go_upto_region 1 with fail
  obtain ⟨W0, hW⟩ : ∃ W0, W0 = (w.alloc (.cells #[.bool ba, .slice p n c] 29)) := ⟨_, rfl⟩
  have hB0 : Below w.heap.size w W0 := hW ▸ (Below.al (Below.refl _ _))
  have HA : Hid (Own w.heap.size [.bool ba, .slice p n c] W0) := Lib.hid (hW ▸ (Own.newAt (by simp)))
  rw [← hW]
  clear hW
  obtain ⟨A, eA⟩ : ∃ X, X = w.heap.size := ⟨_, rfl⟩
  rw [← eA] at HA ⊢
  have Aw : w.heap.size ≤ A := by omega
  clear eA
  have oA := HA.out
  have A0 := oA.at 0 _ rfl
  have A1 := oA.at 1 _ rfl
  have Al := oA.lt
  clear oA
  go_wp2_with (fail)
  go_at_call 17; refine (ti.out _ hB0).mono ?_; rintro e w1 ⟨rfl, hb⟩
  clear A0 A1 Al
  replace HA := Lib.hid (HA.out.later hb)
  have oA := HA.out
  have A0 := oA.at 0 _ rfl
  have A1 := oA.at 1 _ rfl
  have Al := oA.lt
  clear oA
  go_wp2
  go_ret
  exact ⟨rfl, Below.go hB0 hb⟩

set_option maxHeartbeats 4000000 in
theorem Clamp_lo (ba : Bool) (p : Option Addr) (n c : Nat) (y : Int) (w : World) (hb : ba = true)
    (ti : Hid (∀ w', Below w.heap.size w w' → Calls Try.prog 17 #[.agg #[.bool ba, .slice p n c]] w' fun e w'' => e = .returned (.tuple #[.int .i64 0, .bool false]) ∧ Below w'.heap.size w' w'')) :
    Calls Try.prog 24 #[.agg #[.bool ba, .slice p n c]] w fun e w' => e = .returned (.int .i64 (-9223372036854775808)) ∧ Below w.heap.size w w' := by
  subst hb
  go_enter Try.func24, Try.ntmps24
  go_upto_region 1 with fail
  obtain ⟨W0, hW⟩ : ∃ W0, W0 = (w.alloc (.cells #[.bool true, .slice p n c] 29)) := ⟨_, rfl⟩
  have hB0 : Below w.heap.size w W0 := hW ▸ (Below.al (Below.refl _ _))
  have HA : Hid (Own w.heap.size [.bool true, .slice p n c] W0) := Lib.hid (hW ▸ (Own.newAt (by simp)))
  rw [← hW]
  clear hW
  obtain ⟨A, eA⟩ : ∃ X, X = w.heap.size := ⟨_, rfl⟩
  rw [← eA] at HA ⊢
  have Aw : w.heap.size ≤ A := by omega
  clear eA
  have oA := HA.out
  have A0 := oA.at 0 _ rfl
  have A1 := oA.at 1 _ rfl
  have Al := oA.lt
  clear oA
  go_wp2_with (fail)
  go_at_call 17; refine (ti.out _ hB0).mono ?_; rintro e w1 ⟨rfl, hb⟩
  clear A0 A1 Al
  replace HA := Lib.hid (HA.out.later hb)
  have oA := HA.out
  have A0 := oA.at 0 _ rfl
  have A1 := oA.at 1 _ rfl
  have Al := oA.lt
  clear oA
  go_wp2
  go_ret
  exact ⟨rfl, Below.go hB0 hb⟩

set_option maxHeartbeats 4000000 in
theorem Clamp_hi (ba : Bool) (p : Option Addr) (n c : Nat) (y : Int) (w : World) (hb : ba = false)
    (ti : Hid (∀ w', Below w.heap.size w w' → Calls Try.prog 17 #[.agg #[.bool ba, .slice p n c]] w' fun e w'' => e = .returned (.tuple #[.int .i64 0, .bool false]) ∧ Below w'.heap.size w' w'')) :
    Calls Try.prog 24 #[.agg #[.bool ba, .slice p n c]] w fun e w' => e = .returned (.int .i64 9223372036854775807) ∧ Below w.heap.size w w' := by
  subst hb
  go_enter Try.func24, Try.ntmps24
  go_upto_region 1 with fail
  obtain ⟨W0, hW⟩ : ∃ W0, W0 = (w.alloc (.cells #[.bool false, .slice p n c] 29)) := ⟨_, rfl⟩
  have hB0 : Below w.heap.size w W0 := hW ▸ (Below.al (Below.refl _ _))
  have HA : Hid (Own w.heap.size [.bool false, .slice p n c] W0) := Lib.hid (hW ▸ (Own.newAt (by simp)))
  rw [← hW]
  clear hW
  obtain ⟨A, eA⟩ : ∃ X, X = w.heap.size := ⟨_, rfl⟩
  rw [← eA] at HA ⊢
  have Aw : w.heap.size ≤ A := by omega
  clear eA
  have oA := HA.out
  have A0 := oA.at 0 _ rfl
  have A1 := oA.at 1 _ rfl
  have Al := oA.lt
  clear oA
  go_wp2_with (fail)
  go_at_call 17; refine (ti.out _ hB0).mono ?_; rintro e w1 ⟨rfl, hb⟩
  clear A0 A1 Al
  replace HA := Lib.hid (HA.out.later hb)
  have oA := HA.out
  have A0 := oA.at 0 _ rfl
  have A1 := oA.at 1 _ rfl
  have Al := oA.lt
  clear oA
  go_wp2
  go_ret
  exact ⟨rfl, Below.go hB0 hb⟩

theorem Clamp_any (v : Value) (y : Int) (w : World) (hv : NumR w v y) : Calls Try.prog 24 #[v] w fun e w' => e = .returned (.int .i64 (sat y)) ∧ Below w.heap.size w w' := by
  obtain ⟨ba, p, n, c, rfl⟩ := hv.form
  have hn := hv.neg_iff
  by_cases h0 : y < -9223372036854775808
  · rw [sat_lo y h0]
    exact Clamp_lo ba p n c y w (hn.2 (by omega)) (Lib.hid fun w' hb => ToInt_no ba p n c y w' (hv.later hb (Nat.le_refl _)) (.inl h0))
  · by_cases h1 : 9223372036854775807 < y
    · rw [sat_hi y h1]
      exact Clamp_hi ba p n c y w (by cases ba with | false => rfl | true => exact absurd (hn.1 rfl) (by omega)) (Lib.hid fun w' hb => ToInt_no ba p n c y w' (hv.later hb (Nat.le_refl _)) (.inr h1))
    · rw [sat_in y (by omega) (by omega)]
      exact Clamp_in ba p n c y w (Lib.hid fun w' hb => ToInt_yes ba p n c y w' (hv.later hb (Nat.le_refl _)) (by omega) (by omega))

set_option maxHeartbeats 4000000 in
theorem RMulDiv_zero (a b : Int) (w : World) : Calls Try.prog 10 #[.int .i64 a, .int .i64 b, .int .i64 0] w fun e w' => e = .returned (.int .i64 0) ∧ Below w.heap.size w w' := by
  go_enter Try.func10, Try.ntmps10
  go_wp2
  go_ret
  exact ⟨rfl, Below.refl _ _⟩

set_option maxHeartbeats 4000000 in
theorem RMulDiv_core (a b c q s : Int) (hc : (c == 0) = false) (w : World)
    (ofa : Hid (∀ w, Calls Try.prog 7 #[.int .i64 a] w (NumE w a))) (ofb : Hid (∀ w, Calls Try.prog 7 #[.int .i64 b] w (NumE w b))) (ofc : Hid (∀ w, Calls Try.prog 7 #[.int .i64 c] w (NumE w c)))
    (tm : Hid (∀ u v w, NumR w u a → NumR w v b → Calls Try.prog 6 #[u, v] w (NumE w (a * b))))
    (qu : Hid (∀ u v w, NumR w u (a * b) → NumR w v c → Calls Try.prog 15 #[u, v] w fun e w' => ∃ v1 v2, e = .returned (.tuple #[v1, v2]) ∧ NumR w' v1 q ∧ (∃ r, NumR w' v2 r) ∧ Below w.heap.size w w'))
    (cl : Hid (∀ v w, NumR w v q → Calls Try.prog 24 #[v] w fun e w' => e = .returned (.int .i64 s) ∧ Below w.heap.size w w')) :
    Calls Try.prog 10 #[.int .i64 a, .int .i64 b, .int .i64 c] w fun e w' => e = .returned (.int .i64 s) ∧ Below w.heap.size w w' := by
  go_enter Try.func10, Try.ntmps10
  go_wp2_with (fail)
  go_at_call 7; refine (ofa.out _).mono ?_; rintro e w1 ⟨u1, rfl, h1, hB1⟩
  go_wp2_with (fail)
  go_at_call 7; refine (ofb.out _).mono ?_; rintro e w2 ⟨u2, rfl, h2, hb⟩
  replace h1 := h1.later hb (Nat.le_refl _)
  have hB2 := Below.go hB1 hb
  clear hb hB1
  go_wp2_with (fail)
  go_at_call 6; refine (tm.out _ _ _ h1 h2).mono ?_; rintro e w3 ⟨u3, rfl, h3, hb⟩
  have hB3 := Below.go hB2 hb
  clear hb hB2 h1 h2
  go_wp2_with (fail)
  go_at_call 7; refine (ofc.out _).mono ?_; rintro e w4 ⟨u4, rfl, h4, hb⟩
  replace h3 := h3.later hb (Nat.le_refl _)
  have hB4 := Below.go hB3 hb
  clear hb hB3
  go_wp2_with (fail)
  go_at_call 15; refine (qu.out _ _ _ h3 h4).mono ?_; rintro e w5 ⟨v1, v2, rfl, h5, ⟨r2, h6⟩, hb⟩
  have hB5 := Below.go hB4 hb
  clear hb hB4 h3 h4
  obtain ⟨b1, p1, n1, c1, rfl⟩ := h5.form
  obtain ⟨b2, p2, n2, c2, rfl⟩ := h6.form
  clear h6
  go_upto_region 4 with fail
  obtain ⟨U5, hW⟩ : ∃ U5, U5 = ((w5.alloc (.cells #[.bool b1, .slice p1 n1 c1] 29)).alloc (.cells #[.bool b2, .slice p2 n2 c2] 29)) := ⟨_, rfl⟩
  have hq : Below w5.heap.size w5 U5 := hW ▸ (Below.al (Below.al (Below.refl _ _)))
  have HQ : Hid (Own w5.heap.size [.bool b1, .slice p1 n1 c1] U5) := Lib.hid (hW ▸ (Own.newAt (by simp)).alloc)
  have HT : Hid (Own (w5.heap.size + 1) [.bool b2, .slice p2 n2 c2] U5) := Lib.hid (hW ▸ (Own.newAt (by simp)))
  rw [← hW]
  clear hW
  obtain ⟨T, eT⟩ : ∃ X, X = (w5.heap.size + 1) := ⟨_, rfl⟩
  rw [← eT] at HT ⊢
  have Tw : w5.heap.size ≤ T := by omega
  obtain ⟨Q, eQ⟩ : ∃ X, X = w5.heap.size := ⟨_, rfl⟩
  rw [← eQ] at HQ ⊢
  have Qw : w5.heap.size ≤ Q := by omega
  have nQT : Q ≠ T := by omega
  have nTQ : T ≠ Q := by omega
  clear eQ eT
  have hC5 := Below.go hB5 hq
  replace h5 := h5.later hq (Nat.le_refl _)
  clear hq hB5 Qw Tw nQT nTQ HT
  have oQ := HQ.out
  have Q0 := oQ.at 0 _ rfl
  have Q1 := oQ.at 1 _ rfl
  have Ql := oQ.lt
  clear oQ
  go_wp2_with (fail)
  go_at_call 24; refine (cl.out _ _ h5).mono ?_; rintro e w6 ⟨rfl, hb⟩
  go_wp2
  go_ret
  exact ⟨rfl, Below.go hC5 hb⟩

set_option maxHeartbeats 4000000 in
theorem Products_core (a b c h l s : Int) (ok : Bool) (w : World)
    (ofa : Hid (∀ w, Calls Try.prog 7 #[.int .i64 a] w (NumE w a))) (ofb : Hid (∀ w, Calls Try.prog 7 #[.int .i64 b] w (NumE w b)))
    (tm : Hid (∀ u v w, NumR w u a → NumR w v b → Calls Try.prog 6 #[u, v] w (NumE w (a * b))))
    (tw : Hid (∀ v w, NumR w v (a * b) → Calls Try.prog 5 #[v] w fun e w' => e = .returned (.tuple #[(.agg #[.int .i64 h, .int .u64 l]), .bool ok]) ∧ Below w.heap.size w w'))
    (ml : Hid (∀ w, Calls Try.prog 8 #[.int .i64 a, .int .i64 b] w fun e w' => e = .returned (.agg #[.int .i64 h, .int .u64 l]) ∧ Below w.heap.size w w'))
    (md : Hid (∀ w, Calls Try.prog 9 #[.int .i64 a, .int .i64 b, .int .i64 c] w fun e w' => e = .returned (.int .i64 s) ∧ Below w.heap.size w w'))
    (rm : Hid (∀ w, Calls Try.prog 10 #[.int .i64 a, .int .i64 b, .int .i64 c] w fun e w' => e = .returned (.int .i64 s) ∧ Below w.heap.size w w'))
    (wk : Hid (∀ w, Calls Try.prog 11 #[] w fun e w' => e = .returned (.bool true) ∧ Below w.heap.size w w')) :
    Calls Try.prog 3 #[.int .i64 a, .int .i64 b, .int .i64 c] w fun e w' => e = .returned (.bool true) ∧ Below w.heap.size w w' := by
  have e1 : eqB h l h l = true := by simp [eqB]
  go_enter Try.func3, Try.ntmps3
  go_wp2_with (fail)
  go_at_call 7; refine (ofa.out _).mono ?_; rintro e w1 ⟨u1, rfl, h1, hB1⟩
  go_wp2_with (fail)
  go_at_call 7; refine (ofb.out _).mono ?_; rintro e w2 ⟨u2, rfl, h2, hb⟩
  replace h1 := h1.later hb (Nat.le_refl _)
  have hB2 := Below.go hB1 hb
  clear hb hB1
  go_wp2_with (fail)
  go_at_call 6; refine (tm.out _ _ _ h1 h2).mono ?_; rintro e w3 ⟨u3, rfl, h3, hb⟩
  have hB3 := Below.go hB2 hb
  clear hb hB2 h1 h2
  go_wp2_with (fail)
  go_at_call 5; refine (tw.out _ _ h3).mono ?_; rintro e w4 ⟨rfl, hb⟩
  have hB4 := Below.go hB3 hb
  clear hb hB3 h3
  go_upto_region 2 with fail
  obtain ⟨U4, hW⟩ : ∃ U4, U4 = (w4.alloc (.cells #[.int .i64 h, .int .u64 l] 24)) := ⟨_, rfl⟩
  have hq : Below w4.heap.size w4 U4 := hW ▸ (Below.al (Below.refl _ _))
  have HP : Hid (Own w4.heap.size [.int .i64 h, .int .u64 l] U4) := Lib.hid (hW ▸ (Own.newAt (by simp)))
  rw [← hW]
  clear hW
  obtain ⟨P, eP⟩ : ∃ X, X = w4.heap.size := ⟨_, rfl⟩
  rw [← eP] at HP ⊢
  have Pw : w4.heap.size ≤ P := by omega
  clear eP
  have hC4 := Below.go hB4 hq
  clear hq hB4 Pw
  have hBd : Below U4.heap.size U4 U4.drew := (Below.refl _ _).drew
  have SH : Hid (∀ w', Below U4.heap.size U4 w' → w'.cell? ⟨P, 0, none⟩ = some (.int .i64 h) ∧ w'.cell? ⟨P, 1, none⟩ = some (.int .u64 l)) := Lib.hid fun w' hb => ⟨(HP.out.later hb).at 0 _ rfl, (HP.out.later hb).at 1 _ rfl⟩
  go_region_held3 (fun w' => w'.cell? ⟨P, 0, none⟩ = some (.int .i64 h) ∧ w'.cell? ⟨P, 1, none⟩ = some (.int .u64 l)) (first | exact SH.out _ (by assumption) | exact SH.out _ (Below.al (by assumption))) (first | (go_at_call 8; (with_reducible refine (ml.out _).mono ?_); rintro e w5 ⟨rfl, h1⟩; have bw5 : Below U4.heap.size U4 w5 := Below.go hBd h1; clear h1) | (go_at_call 9; (with_reducible refine (md.out _).mono ?_); rintro e w6 ⟨rfl, h1⟩; have bw6 : Below U4.heap.size U4 w6 := Below.go bw5 h1; clear h1) | (go_at_call 10; (with_reducible refine (rm.out _).mono ?_); rintro e w7 ⟨rfl, h1⟩; have bw7 : Below U4.heap.size U4 w7 := Below.go bw6 h1; clear h1) | (go_at_call 11; (with_reducible refine (wk.out _).mono ?_); rintro e w8 ⟨rfl, h1⟩; have bw8 : Below U4.heap.size U4 w8 := Below.go bw7 h1; clear h1))
  have hB8 := Below.go hC4 bw8
  clear hC4 hBd bw5 bw6 bw7 bw8 SH HP ofa ofb tm tw ml md rm wk
  go_wp2
  go_ret
  exact ⟨rfl, hB8⟩

theorem exists_quo2 (z d : Int) (hd : d ≠ 0) : ∃ q r, z = d * q + r ∧ (0 < d → 0 ≤ r ∧ r < d) ∧ (d < 0 → d < r ∧ r ≤ 0) := by
  by_cases h : 0 < d
  · exact ⟨z / d, z % d, (Int.mul_ediv_add_emod z d).symm, fun _ => ⟨Int.emod_nonneg _ (by omega), Int.emod_lt_of_pos _ h⟩, by omega⟩
  · have e := Int.mul_ediv_add_emod (-z) (-d)
    have r0 := Int.emod_nonneg (-z) (show -d ≠ 0 by omega)
    have r1 := Int.emod_lt_of_pos (-z) (show 0 < -d by omega)
    refine ⟨-z / -d, -(-z % -d), ?_, by omega, fun _ => ⟨by omega, by omega⟩⟩
    rw [Int.neg_mul] at e
    generalize d * (-z / -d) = P at *
    omega
theorem small64 (z : Int) (h : -9223372036854775808 ≤ z ∧ z ≤ 9223372036854775807) : (z.natAbs : Int) < BIG ∧ (z.natAbs : Int) < SMALL := by
  unfold BIG SMALL
  constructor <;> omega
theorem Products_walk (a b c : Int) (ba : -9223372036854775808 ≤ a ∧ a ≤ 9223372036854775807) (bb : -9223372036854775808 ≤ b ∧ b ≤ 9223372036854775807) (bc : -9223372036854775808 ≤ c ∧ c ≤ 9223372036854775807) (w : World) :
    Calls Try.prog 3 #[.int .i64 a, .int .i64 b, .int .i64 c] w fun e w' => e = .returned (.bool true) ∧ Below w.heap.size w w' := by
  have pb := prod_bd a b ba.1 ba.2 bb.1 bb.2
  have ps : ((a * b).natAbs : Int) < SMALL := by unfold SMALL; omega
  have iw : inW (a * b) = true := by unfold inW; simp; omega
  have tm : Hid (∀ u v w, NumR w u a → NumR w v b → Calls Try.prog 6 #[u, v] w (NumE w (a * b))) := Lib.hid fun u v w hu hv => times_any u v a b w hu hv (small64 a ba).1 (small64 b bb).1
  have tw : Hid (∀ v w, NumR w v (a * b) → Calls Try.prog 5 #[v] w fun e w' => e = .returned (.tuple #[(.agg #[.int .i64 (hi (a * b)), .int .u64 (lo (a * b))]), .bool true]) ∧ Below w.heap.size w w') := Lib.hid fun v w hv => by
    have h := ToWide_v v (a * b) w hv ps
    rw [iw] at h
    exact h
  have ofa : Hid (∀ w, Calls Try.prog 7 #[.int .i64 a] w (NumE w a)) := Lib.hid fun w => refOf_any a ba.1 ba.2 w
  have ofb : Hid (∀ w, Calls Try.prog 7 #[.int .i64 b] w (NumE w b)) := Lib.hid fun w => refOf_any b bb.1 bb.2 w
  by_cases hc : c = 0
  · subst hc
    exact Products_core a b 0 _ _ 0 true w ofa ofb tm tw (Lib.hid fun w => Mul_any a b ba.1 ba.2 bb.1 bb.2 w) (Lib.hid fun w => MulDiv_zero a b (hi (a * b)) (lo (a * b)) w (Lib.hid fun w => Mul_any a b ba.1 ba.2 bb.1 bb.2 w)) (Lib.hid fun w => RMulDiv_zero a b w) (Lib.hid works_any)
  · obtain ⟨q, r, e, hp, hm⟩ := exists_quo2 (a * b) c hc
    refine Products_core a b c _ _ (sat q) true w ofa ofb tm tw (Lib.hid fun w => Mul_any a b ba.1 ba.2 bb.1 bb.2 w) (Lib.hid fun w => MulDiv_any a b c q r ba.1 ba.2 bb.1 bb.2 bc.1 bc.2 hc e hp hm w) (Lib.hid fun w => ?_) (Lib.hid works_any)
    refine RMulDiv_core a b c q (sat q) (by simpa using hc) w ofa ofb (Lib.hid fun w => refOf_any c bc.1 bc.2 w) tm (Lib.hid fun u v w hu hv => ?_) (Lib.hid fun v w hv => Clamp_any v q w hv)
    refine (quotient_any u v (a * b) c w hu hv hc ps (small64 c bc).2).mono ?_
    rintro e' w' ⟨v1, v2, q', r', rfl, h1, h2, e2, hp', hm', hb⟩
    obtain ⟨rfl, rfl⟩ := div_uniq (a * b) c q r q' r' e e2 hc hp hm hp' hm'
    exact ⟨v1, v2, rfl, h1, ⟨_, h2⟩, hb⟩
end Go.Proofs.Ytlfchlholabijaa
