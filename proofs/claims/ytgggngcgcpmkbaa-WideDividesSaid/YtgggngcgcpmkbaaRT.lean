/- umbralaw01.WideMakes: the walk. -/
import Derived.Test.YtgggngcgcpmkbaaRQ
import Derived.Test.YtgggngcgcpmkbaaKA
import Derived.Test.YtgggngcgcpmkbaaWW
import Derived.Deep.DeepCutAuto
import Derived.Deep.RegionHeld3
namespace Go.Proofs.Ytgggngcgcpmkbaa
set_option linter.unusedVariables false
set_option maxRecDepth 2000
set_option linter.unusedSimpArgs false
open Go.RowKit
attribute [local go_sem] setCell_twice setCell_pair
attribute [local go_sem ↓] eqW neqW

set_option maxHeartbeats 4000000 in
theorem Makes_core (n h l nh nl k : Int) (y : Int) (b : Bool) (hn0 : -9223372036854775808 ≤ n) (hn1 : n ≤ 9223372036854775807) (w : World)
    (ow : Hid (∀ (ba : Bool) (p : Option Addr) (m c : Nat) (w : World), NumR w (.agg #[.bool ba, .slice p m c]) n → Calls Try.prog 31 #[.agg #[.bool ba, .slice p m c]] w fun e w' => e = .returned (.tuple #[(.agg #[.int .i64 nh, .int .u64 nl]), .bool true]) ∧ Below w.heap.size w w'))
    (it : Hid (∀ w, Calls Try.prog 33 #[(.agg #[.int .i64 h, .int .u64 l])] w fun e w' => e = .returned (.tuple #[.int .i64 k, .bool b]) ∧ Below w.heap.size w w'))
    (rw : Hid (∀ w, Calls Try.prog 35 #[(.agg #[.int .i64 h, .int .u64 l])] w (NumE w y)))
    (ti : Hid (∀ (ba : Bool) (p : Option Addr) (m c : Nat) (w : World), NumR w (.agg #[.bool ba, .slice p m c]) y → Calls Try.prog 34 #[.agg #[.bool ba, .slice p m c]] w fun e w' => e = .returned (.tuple #[.int .i64 k, .bool b]) ∧ Below w.heap.size w w'))
    (of : Hid (∀ w, Calls Try.prog 36 #[.int .i64 n] w fun e w' => e = .returned (.agg #[.int .i64 nh, .int .u64 nl]) ∧ Below w.heap.size w w'))
    (wk : Hid (∀ w, Calls Try.prog 37 #[] w fun e w' => e = .returned (.bool true) ∧ Below w.heap.size w w')) :
    Calls Try.prog 9 #[.int .i64 n, (.agg #[.int .i64 h, .int .u64 l])] w fun e w' => e = .returned (.bool true) ∧ Below w.heap.size w w' := by
  have e1 : eqB nh nl nh nl = true := by simp [eqB]
  go_enter Try.func9, Try.ntmps9
  go_wp2_with (fail)
  obtain ⟨W0, hW⟩ : ∃ W0, W0 = (w.alloc (.cells #[.int .i64 h, .int .u64 l] 50)) := ⟨_, rfl⟩
  have hB0 : Below w.heap.size w W0 := hW ▸ (Below.al (Below.refl _ _))
  have HA : Hid (Own w.heap.size [.int .i64 h, .int .u64 l] W0) := Lib.hid (hW ▸ (Own.newAt (by simp)))
  rw [← hW]
  clear hW
  obtain ⟨A, eA⟩ : ∃ X, X = w.heap.size := ⟨_, rfl⟩
  rw [← eA] at HA ⊢
  have Aw : w.heap.size ≤ A := by omega
  clear eA
  go_at_call 32; refine (refOf_any n hn0 hn1 _).mono ?_; rintro e w1 ⟨v, rfl, hv, hb⟩
  obtain ⟨ba, p, m_, c_, rfl⟩ := hv.form
  replace HA := Lib.hid (HA.out.later hb)
  have hB1 := Below.go hB0 hb
  clear hb hB0
  go_wp2_with (fail)
  go_at_call 31; refine (ow.out _ _ _ _ _ hv).mono ?_; rintro e w2 ⟨rfl, hb⟩
  replace HA := Lib.hid (HA.out.later hb)
  have hB2 := Below.go hB1 hb
  clear hb hB1 hv
  go_upto_region 2 with fail
  obtain ⟨W3, hW⟩ : ∃ W3, W3 = (w2.alloc (.cells #[.int .i64 nh, .int .u64 nl] 50)) := ⟨_, rfl⟩
  have hq : Below w2.heap.size w2 W3 := hW ▸ (Below.al (Below.refl _ _))
  have HM : Hid (Own w2.heap.size [.int .i64 nh, .int .u64 nl] W3) := Lib.hid (hW ▸ (Own.newAt (by simp)))
  rw [← hW]
  clear hW
  obtain ⟨M, eM⟩ : ∃ X, X = w2.heap.size := ⟨_, rfl⟩
  rw [← eM] at HM ⊢
  have Mw : w2.heap.size ≤ M := by omega
  clear eM
  replace HA := Lib.hid (HA.out.later hq)
  have hB3 := Below.go hB2 hq
  clear hq hB2 Mw
  have oA := HA.out
  have A0 := oA.at 0 _ rfl
  have A1 := oA.at 1 _ rfl
  have Al := oA.lt
  clear oA
  go_wp2_with (fail)
  go_at_call 33; refine (it.out _).mono ?_; rintro e w4 ⟨rfl, hb⟩
  replace HA := Lib.hid (HA.out.later hb); replace HM := Lib.hid (HM.out.later hb)
  have hB4 := Below.go hB3 hb
  clear hb hB3 A0 A1 Al
  have oA := HA.out
  have A0 := oA.at 0 _ rfl
  have A1 := oA.at 1 _ rfl
  have Al := oA.lt
  clear oA
  go_wp2_with (fail)
  go_at_call 35; refine (rw.out _).mono ?_; rintro e w5 ⟨v5, rfl, hv, hb⟩
  obtain ⟨bb, p5, m5, c5, rfl⟩ := hv.form
  replace HM := Lib.hid (HM.out.later hb)
  have hB5 := Below.go hB4 hb
  clear hb hB4 A0 A1 Al HA
  go_wp2_with (fail)
  go_at_call 34; refine (ti.out _ _ _ _ _ hv).mono ?_; rintro e w6 ⟨rfl, hb⟩
  replace HM := Lib.hid (HM.out.later hb)
  have hB6 := Below.go hB5 hb
  clear hb hB5 hv
  go_wp2_with (fail)
  have hBd : Below w6.heap.size w6 w6.drew := (Below.refl _ _).drew
  have SH : Hid (∀ w', Below w6.heap.size w6 w' → w'.cell? ⟨M, 0, none⟩ = some (.int .i64 nh) ∧ w'.cell? ⟨M, 1, none⟩ = some (.int .u64 nl)) := Lib.hid fun w' hb => ⟨(HM.out.later hb).at 0 _ rfl, (HM.out.later hb).at 1 _ rfl⟩
  go_region_held3 (fun w' => w'.cell? ⟨M, 0, none⟩ = some (.int .i64 nh) ∧ w'.cell? ⟨M, 1, none⟩ = some (.int .u64 nl)) (first | exact SH.out _ (by assumption) | exact SH.out _ (Below.al (by assumption))) (first | (go_at_call 36; (with_reducible refine (of.out _).mono ?_); rintro e w7 ⟨rfl, h1⟩; have bw7 : Below w6.heap.size w6 w7 := Below.go hBd h1; clear h1) | (go_at_call 37; (with_reducible refine (wk.out _).mono ?_); rintro e w8 ⟨rfl, h1⟩; have bw8 : Below w6.heap.size w6 w8 := Below.go bw7 h1; clear h1))
  have hB8 := Below.go hB6 bw8
  clear hB6 hBd bw7 bw8 SH HM ow it rw ti of wk
  go_wp2
  go_ret
  exact ⟨rfl, hB8⟩
theorem Makes_walk (n h l : Int) (hn : -9223372036854775808 ≤ n ∧ n ≤ 9223372036854775807) (bh : -9223372036854775808 ≤ h ∧ h ≤ 9223372036854775807) (bl : 0 ≤ l ∧ l ≤ 18446744073709551615) (w : World) :
    Calls Try.prog 9 #[.int .i64 n, (.agg #[.int .i64 h, .int .u64 l])] w fun e w' => e = .returned (.bool true) ∧ Below w.heap.size w w' := by
  obtain ⟨z, hz⟩ : ∃ z, z = h * 18446744073709551616 + l := ⟨_, rfl⟩
  have eh : hi z = h := by unfold hi; omega
  have el : lo z = l := by unfold lo; omega
  have z0 : -170141183460469231731687303715884105728 ≤ z := by omega
  have z1 : z < 170141183460469231731687303715884105728 := by omega
  have it := fun w => Int_any z w
  have rw_ := fun w => wide_any z z0 z1 w
  rw [eh, el] at it rw_
  have iw : inW n = true := by unfold inW; simp; omega
  refine Makes_core n h l (hi n) (lo n) _ z _ hn.1 hn.2 w (Lib.hid fun ba p m c w hv => ?_) (Lib.hid it) (Lib.hid rw_) (Lib.hid fun ba p m c w hv => ?_) (Lib.hid fun w => Of_any n hn.1 hn.2 w) (Lib.hid works_any)
  · have := ToWide_any ba p m c n w hv (by unfold SMALL; omega)
    rw [iw] at this
    exact this
  · by_cases hi_ : -9223372036854775808 ≤ z ∧ z ≤ 9223372036854775807
    · rw [decide_eq_true hi_]
      exact ToInt_yes ba p m c z w hv hi_.1 hi_.2
    · rw [decide_eq_false hi_]
      exact ToInt_no ba p m c z w hv (by omega)
end Go.Proofs.Ytgggngcgcpmkbaa
