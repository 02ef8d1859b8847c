/- umbralaw01.WideSums: the walk. -/
import Derived.Test.YtgggngcgcpmkbaaRU
import Derived.Test.YtgggngcgcpmkbaaWN
import Derived.Test.YtgggngcgcpmkbaaWAdd
import Derived.Test.YtgggngcgcpmkbaaPS
import Derived.Deep.DeepCutAuto
import Derived.LoopN
namespace Go.Proofs.Ytgggngcgcpmkbaa
set_option linter.unusedVariables false
set_option maxRecDepth 2000
set_option linter.unusedSimpArgs false
open Go.RowKit
attribute [local go_sem] setCell_twice setCell_pair
attribute [local go_sem ↓] eqW neqW
theorem WAdd_nil (p : Option Addr) (cap : Nat) (w : World) : Calls Try.prog 38 #[.slice p 0 cap] w fun e w' => e = .returned (.tuple #[.agg #[.int .i64 0, .int .u64 0], .bool true]) ∧ Below w.heap.size w w' := by
  go_enter Try.func38, Try.ntmps38
  go_wp2_with (fail)
  refine wp_loop_rounds 1 ?_
  rw [rounds_succ]
  go_wp2_with (fail)
  exact bodyPost_ret (v := .tuple #[.agg #[.int .i64 0, .int .u64 0], .bool true]) (by simp [results, Try.results38, go_sem]) rfl ⟨rfl, (by repeat (first | (with_reducible exact Below.refl _ _) | (with_reducible assumption) | (with_reducible refine below_drewN ?_ _) | (with_reducible refine Below.drew ?_) | (with_reducible refine Below.alloc ?_ ?_ _) | (with_reducible refine Below.setCell ?_ ?_ _) | (with_reducible exact Nat.le_refl _) | exact Nat.le_succ _ | (simp; done) | (simp; omega) | omega | fail))⟩
theorem RAdd_nil1 (p : Option Addr) (cap : Nat) (w : World) : Calls Try.prog 39 #[.slice p 0 cap] w fun e w' => e = .returned (.tuple #[.agg #[.int .i64 0, .int .u64 0], .bool true]) ∧ Below w.heap.size w w' := by
  go_enter Try.func39, Try.ntmps39
  go_wp2_with (fail)
  refine wp_loop_rounds 1 ?_
  rw [rounds_succ]
  go_wp2_with (fail)
  exact bodyPost_ret (v := .tuple #[.agg #[.int .i64 0, .int .u64 0], .bool true]) (by simp [results, Try.results39, go_sem]) rfl ⟨rfl, (by repeat (first | (with_reducible exact Below.refl _ _) | (with_reducible assumption) | (with_reducible refine below_drewN ?_ _) | (with_reducible refine Below.drew ?_) | (with_reducible refine Below.alloc ?_ ?_ _) | (with_reducible refine Below.setCell ?_ ?_ _) | (with_reducible exact Nat.le_refl _) | exact Nat.le_succ _ | (simp; done) | (simp; omega) | omega | fail))⟩

set_option maxHeartbeats 4000000 in
theorem Sums_few1 (ah al sh sl nh nl y : Int) (so no : Bool) (blk off n cap : Nat) (hc : n ≤ cap) (hm : cap ≤ 9223372036854775807) (h8 : (n : Int) ≤ 8) (w : World)
    (ad : Hid (∀ w', Below w.heap.size w w' → Calls Try.prog 38 #[.slice (some ⟨blk, off, none⟩) n cap] w' fun e w'' => e = .returned (.tuple #[(.agg #[.int .i64 sh, .int .u64 sl]), .bool so]) ∧ Below w'.heap.size w' w''))
    (rd : Hid (∀ w', Below w.heap.size w w' → Calls Try.prog 39 #[.slice (some ⟨blk, off, none⟩) n cap] w' fun e w'' => e = .returned (.tuple #[(.agg #[.int .i64 sh, .int .u64 sl]), .bool so]) ∧ Below w'.heap.size w' w''))
    (ng : Hid (∀ w, Calls Try.prog 40 #[(.agg #[.int .i64 ah, .int .u64 al])] w fun e w' => e = .returned (.tuple #[(.agg #[.int .i64 nh, .int .u64 nl]), .bool no]) ∧ Below w.heap.size w w'))
    (wi : Hid (∀ w, Calls Try.prog 35 #[(.agg #[.int .i64 ah, .int .u64 al])] w (NumE w y)))
    (mi : Hid (∀ v w, NumR w v y → Calls Try.prog 41 #[v] w (NumE w (-y))))
    (tw : Hid (∀ v w, NumR w v (-y) → Calls Try.prog 31 #[v] w fun e w' => e = .returned (.tuple #[(.agg #[.int .i64 nh, .int .u64 nl]), .bool no]) ∧ Below w.heap.size w w'))
    (wk : Hid (∀ w, Calls Try.prog 37 #[] w fun e w' => e = .returned (.bool true) ∧ Below w.heap.size w w')) :
    Calls Try.prog 10 #[.slice (some ⟨blk, off, none⟩) n cap, (.agg #[.int .i64 ah, .int .u64 al])] w fun e w' => e = .returned (.bool true) ∧ Below w.heap.size w w' := by
  have e1 : eqB sh sl sh sl = true := by simp [eqB]
  have e2 : eqB nh nl nh nl = true := by simp [eqB]
  go_enter Try.func10, Try.ntmps10
  go_upto_region 2 with fail
  obtain ⟨W0, hW⟩ : ∃ W0, W0 = (w.alloc (.cells #[.int .i64 ah, .int .u64 al] 50)) := ⟨_, rfl⟩
  have hB0 : Below w.heap.size w W0 := hW ▸ (Below.al (Below.refl _ _))
  have HA : Hid (Own w.heap.size [.int .i64 ah, .int .u64 al] W0) := Lib.hid (hW ▸ (Own.newAt (by simp)))
  rw [← hW]
  clear hW
  obtain ⟨A, eA⟩ : ∃ X, X = w.heap.size := ⟨_, rfl⟩
  rw [← eA] at HA ⊢
  have Aw : w.heap.size ≤ A := by omega
  clear eA
  go_wp2_with (fail)
  go_at_call 38; refine (ad.out _ hB0).mono ?_; rintro e w1 ⟨rfl, hb⟩
  replace HA := Lib.hid (HA.out.later hb)
  have hB1 := Below.go hB0 hb
  clear hb hB0
  go_upto_region 3 with fail
  obtain ⟨U1, hW⟩ : ∃ U1, U1 = (w1.alloc (.cells #[.int .i64 sh, .int .u64 sl] 50)) := ⟨_, rfl⟩
  have hq : Below w1.heap.size w1 U1 := hW ▸ (Below.al (Below.refl _ _))
  have HS : Hid (Own w1.heap.size [.int .i64 sh, .int .u64 sl] U1) := Lib.hid (hW ▸ (Own.newAt (by simp)))
  rw [← hW]
  clear hW
  obtain ⟨S, eS⟩ : ∃ X, X = w1.heap.size := ⟨_, rfl⟩
  rw [← eS] at HS ⊢
  have Sw : w1.heap.size ≤ S := by omega
  clear eS
  replace HA := Lib.hid (HA.out.later hq)
  have hC1 := Below.go hB1 hq
  clear hq hB1 Sw
  go_wp2_with (fail)
  go_at_call 39; refine (rd.out _ hC1).mono ?_; rintro e w2 ⟨rfl, hb⟩
  replace HA := Lib.hid (HA.out.later hb)
  replace HS := Lib.hid (HS.out.later hb)
  have hB2 := Below.go hC1 hb
  clear hb hC1
  go_upto_region 4 with fail
  obtain ⟨U2, hW⟩ : ∃ U2, U2 = (w2.alloc (.cells #[.int .i64 sh, .int .u64 sl] 50)) := ⟨_, rfl⟩
  have hq : Below w2.heap.size w2 U2 := hW ▸ (Below.al (Below.refl _ _))
  have HT : Hid (Own w2.heap.size [.int .i64 sh, .int .u64 sl] U2) := Lib.hid (hW ▸ (Own.newAt (by simp)))
  rw [← hW]
  clear hW
  obtain ⟨T, eT⟩ : ∃ X, X = w2.heap.size := ⟨_, rfl⟩
  rw [← eT] at HT ⊢
  have Tw : w2.heap.size ≤ T := by omega
  clear eT
  replace HA := Lib.hid (HA.out.later hq)
  replace HS := Lib.hid (HS.out.later hq)
  have hC2 := Below.go hB2 hq
  clear hq hB2 Tw
  have oA := HA.out
  have A0 := oA.at 0 _ rfl
  have A1 := oA.at 1 _ rfl
  have Al := oA.lt
  clear oA
  go_wp2_with (fail)
  clear A0 A1 Al
  go_at_call 40; refine (ng.out _).mono ?_; rintro e w3 ⟨rfl, hb⟩
  replace HA := Lib.hid (HA.out.later hb)
  replace HS := Lib.hid (HS.out.later hb)
  replace HT := Lib.hid (HT.out.later hb)
  have hB3 := Below.go hC2 hb
  clear hb hC2
  go_upto_region 5 with fail
  obtain ⟨U3, hW⟩ : ∃ U3, U3 = (w3.alloc (.cells #[.int .i64 nh, .int .u64 nl] 50)) := ⟨_, rfl⟩
  have hq : Below w3.heap.size w3 U3 := hW ▸ (Below.al (Below.refl _ _))
  have HM : Hid (Own w3.heap.size [.int .i64 nh, .int .u64 nl] U3) := Lib.hid (hW ▸ (Own.newAt (by simp)))
  rw [← hW]
  clear hW
  obtain ⟨M, eM⟩ : ∃ X, X = w3.heap.size := ⟨_, rfl⟩
  rw [← eM] at HM ⊢
  have Mw : w3.heap.size ≤ M := by omega
  clear eM
  replace HA := Lib.hid (HA.out.later hq)
  replace HS := Lib.hid (HS.out.later hq)
  replace HT := Lib.hid (HT.out.later hq)
  have hC3 := Below.go hB3 hq
  clear hq hB3 Mw
  have oA := HA.out
  have A0 := oA.at 0 _ rfl
  have A1 := oA.at 1 _ rfl
  have Al := oA.lt
  clear oA
  go_wp2_with (fail)
  clear A0 A1 Al
  go_at_call 35; refine (wi.out _).mono ?_; rintro e w4 ⟨v4, rfl, hv4, hb⟩
  replace HA := Lib.hid (HA.out.later hb)
  replace HS := Lib.hid (HS.out.later hb)
  replace HT := Lib.hid (HT.out.later hb)
  replace HM := Lib.hid (HM.out.later hb)
  have hB4 := Below.go hC3 hb
  clear hb hC3
  go_wp2_with (fail)
  go_at_call 41; refine (mi.out _ _ hv4).mono ?_; rintro e w5 ⟨v5, rfl, hv5, hb⟩
  replace HA := Lib.hid (HA.out.later hb)
  replace HS := Lib.hid (HS.out.later hb)
  replace HT := Lib.hid (HT.out.later hb)
  replace HM := Lib.hid (HM.out.later hb)
  have hB5 := Below.go hB4 hb
  clear hb hB4 hv4
  go_wp2_with (fail)
  go_at_call 31; refine (tw.out _ _ hv5).mono ?_; rintro e w6 ⟨rfl, hb⟩
  replace HA := Lib.hid (HA.out.later hb)
  replace HS := Lib.hid (HS.out.later hb)
  replace HT := Lib.hid (HT.out.later hb)
  replace HM := Lib.hid (HM.out.later hb)
  have hB6 := Below.go hB5 hb
  clear hb hB5
  go_upto_region 6 with fail
  obtain ⟨U6, hW⟩ : ∃ U6, U6 = (w6.alloc (.cells #[.int .i64 nh, .int .u64 nl] 50)) := ⟨_, rfl⟩
  have hq : Below w6.heap.size w6 U6 := hW ▸ (Below.al (Below.refl _ _))
  have HN : Hid (Own w6.heap.size [.int .i64 nh, .int .u64 nl] U6) := Lib.hid (hW ▸ (Own.newAt (by simp)))
  rw [← hW]
  clear hW
  obtain ⟨N, eN⟩ : ∃ X, X = w6.heap.size := ⟨_, rfl⟩
  rw [← eN] at HN ⊢
  have Nw : w6.heap.size ≤ N := by omega
  clear eN
  replace HA := Lib.hid (HA.out.later hq)
  replace HS := Lib.hid (HS.out.later hq)
  replace HT := Lib.hid (HT.out.later hq)
  replace HM := Lib.hid (HM.out.later hq)
  have hC6 := Below.go hB6 hq
  clear hq hB6 Nw
  clear hv5
  have oS := HS.out
  have S0 := oS.at 0 _ rfl
  have S1 := oS.at 1 _ rfl
  have Sl := oS.lt
  clear oS
  have oT := HT.out
  have T0 := oT.at 0 _ rfl
  have T1 := oT.at 1 _ rfl
  have Tl := oT.lt
  clear oT
  have oM := HM.out
  have M0 := oM.at 0 _ rfl
  have M1 := oM.at 1 _ rfl
  have Ml := oM.lt
  clear oM
  have oN := HN.out
  have N0 := oN.at 0 _ rfl
  have N1 := oN.at 1 _ rfl
  have Nl := oN.lt
  clear oN
  go_wp2_with (fail)
  go_at_call 37; refine (wk.out _).mono ?_; rintro e w7 ⟨rfl, hb⟩
  go_wp2
  go_ret
  exact ⟨rfl, Below.go hC6 hb⟩

set_option maxHeartbeats 4000000 in
theorem Sums_many1 (ah al sh sl nh nl y : Int) (so no : Bool) (blk off n cap : Nat) (hc : n ≤ cap) (hm : cap ≤ 9223372036854775807) (h8 : 8 < (n : Int)) (w : World)
    (ad : Hid (∀ w', Below w.heap.size w w' → Calls Try.prog 38 #[.slice (some ⟨blk, off, none⟩) 8 cap] w' fun e w'' => e = .returned (.tuple #[(.agg #[.int .i64 sh, .int .u64 sl]), .bool so]) ∧ Below w'.heap.size w' w''))
    (rd : Hid (∀ w', Below w.heap.size w w' → Calls Try.prog 39 #[.slice (some ⟨blk, off, none⟩) 8 cap] w' fun e w'' => e = .returned (.tuple #[(.agg #[.int .i64 sh, .int .u64 sl]), .bool so]) ∧ Below w'.heap.size w' w''))
    (ng : Hid (∀ w, Calls Try.prog 40 #[(.agg #[.int .i64 ah, .int .u64 al])] w fun e w' => e = .returned (.tuple #[(.agg #[.int .i64 nh, .int .u64 nl]), .bool no]) ∧ Below w.heap.size w w'))
    (wi : Hid (∀ w, Calls Try.prog 35 #[(.agg #[.int .i64 ah, .int .u64 al])] w (NumE w y)))
    (mi : Hid (∀ v w, NumR w v y → Calls Try.prog 41 #[v] w (NumE w (-y))))
    (tw : Hid (∀ v w, NumR w v (-y) → Calls Try.prog 31 #[v] w fun e w' => e = .returned (.tuple #[(.agg #[.int .i64 nh, .int .u64 nl]), .bool no]) ∧ Below w.heap.size w w'))
    (wk : Hid (∀ w, Calls Try.prog 37 #[] w fun e w' => e = .returned (.bool true) ∧ Below w.heap.size w w')) :
    Calls Try.prog 10 #[.slice (some ⟨blk, off, none⟩) n cap, (.agg #[.int .i64 ah, .int .u64 al])] w fun e w' => e = .returned (.bool true) ∧ Below w.heap.size w w' := by
  have e1 : eqB sh sl sh sl = true := by simp [eqB]
  have e2 : eqB nh nl nh nl = true := by simp [eqB]
  go_enter Try.func10, Try.ntmps10
  go_upto_region 2 with fail
  obtain ⟨W0, hW⟩ : ∃ W0, W0 = (w.alloc (.cells #[.int .i64 ah, .int .u64 al] 50)) := ⟨_, rfl⟩
  have hB0 : Below w.heap.size w W0 := hW ▸ (Below.al (Below.refl _ _))
  have HA : Hid (Own w.heap.size [.int .i64 ah, .int .u64 al] W0) := Lib.hid (hW ▸ (Own.newAt (by simp)))
  rw [← hW]
  clear hW
  obtain ⟨A, eA⟩ : ∃ X, X = w.heap.size := ⟨_, rfl⟩
  rw [← eA] at HA ⊢
  have Aw : w.heap.size ≤ A := by omega
  clear eA
  go_wp2_with (fail)
  go_at_call 38; refine (ad.out _ hB0).mono ?_; rintro e w1 ⟨rfl, hb⟩
  replace HA := Lib.hid (HA.out.later hb)
  have hB1 := Below.go hB0 hb
  clear hb hB0
  go_upto_region 3 with fail
  obtain ⟨U1, hW⟩ : ∃ U1, U1 = (w1.alloc (.cells #[.int .i64 sh, .int .u64 sl] 50)) := ⟨_, rfl⟩
  have hq : Below w1.heap.size w1 U1 := hW ▸ (Below.al (Below.refl _ _))
  have HS : Hid (Own w1.heap.size [.int .i64 sh, .int .u64 sl] U1) := Lib.hid (hW ▸ (Own.newAt (by simp)))
  rw [← hW]
  clear hW
  obtain ⟨S, eS⟩ : ∃ X, X = w1.heap.size := ⟨_, rfl⟩
  rw [← eS] at HS ⊢
  have Sw : w1.heap.size ≤ S := by omega
  clear eS
  replace HA := Lib.hid (HA.out.later hq)
  have hC1 := Below.go hB1 hq
  clear hq hB1 Sw
  go_wp2_with (fail)
  go_at_call 39; refine (rd.out _ hC1).mono ?_; rintro e w2 ⟨rfl, hb⟩
  replace HA := Lib.hid (HA.out.later hb)
  replace HS := Lib.hid (HS.out.later hb)
  have hB2 := Below.go hC1 hb
  clear hb hC1
  go_upto_region 4 with fail
  obtain ⟨U2, hW⟩ : ∃ U2, U2 = (w2.alloc (.cells #[.int .i64 sh, .int .u64 sl] 50)) := ⟨_, rfl⟩
  have hq : Below w2.heap.size w2 U2 := hW ▸ (Below.al (Below.refl _ _))
  have HT : Hid (Own w2.heap.size [.int .i64 sh, .int .u64 sl] U2) := Lib.hid (hW ▸ (Own.newAt (by simp)))
  rw [← hW]
  clear hW
  obtain ⟨T, eT⟩ : ∃ X, X = w2.heap.size := ⟨_, rfl⟩
  rw [← eT] at HT ⊢
  have Tw : w2.heap.size ≤ T := by omega
  clear eT
  replace HA := Lib.hid (HA.out.later hq)
  replace HS := Lib.hid (HS.out.later hq)
  have hC2 := Below.go hB2 hq
  clear hq hB2 Tw
  have oA := HA.out
  have A0 := oA.at 0 _ rfl
  have A1 := oA.at 1 _ rfl
  have Al := oA.lt
  clear oA
  go_wp2_with (fail)
  clear A0 A1 Al
  go_at_call 40; refine (ng.out _).mono ?_; rintro e w3 ⟨rfl, hb⟩
  replace HA := Lib.hid (HA.out.later hb)
  replace HS := Lib.hid (HS.out.later hb)
  replace HT := Lib.hid (HT.out.later hb)
  have hB3 := Below.go hC2 hb
  clear hb hC2
  go_upto_region 5 with fail
  obtain ⟨U3, hW⟩ : ∃ U3, U3 = (w3.alloc (.cells #[.int .i64 nh, .int .u64 nl] 50)) := ⟨_, rfl⟩
  have hq : Below w3.heap.size w3 U3 := hW ▸ (Below.al (Below.refl _ _))
  have HM : Hid (Own w3.heap.size [.int .i64 nh, .int .u64 nl] U3) := Lib.hid (hW ▸ (Own.newAt (by simp)))
  rw [← hW]
  clear hW
  obtain ⟨M, eM⟩ : ∃ X, X = w3.heap.size := ⟨_, rfl⟩
  rw [← eM] at HM ⊢
  have Mw : w3.heap.size ≤ M := by omega
  clear eM
  replace HA := Lib.hid (HA.out.later hq)
  replace HS := Lib.hid (HS.out.later hq)
  replace HT := Lib.hid (HT.out.later hq)
  have hC3 := Below.go hB3 hq
  clear hq hB3 Mw
  have oA := HA.out
  have A0 := oA.at 0 _ rfl
  have A1 := oA.at 1 _ rfl
  have Al := oA.lt
  clear oA
  go_wp2_with (fail)
  clear A0 A1 Al
  go_at_call 35; refine (wi.out _).mono ?_; rintro e w4 ⟨v4, rfl, hv4, hb⟩
  replace HA := Lib.hid (HA.out.later hb)
  replace HS := Lib.hid (HS.out.later hb)
  replace HT := Lib.hid (HT.out.later hb)
  replace HM := Lib.hid (HM.out.later hb)
  have hB4 := Below.go hC3 hb
  clear hb hC3
  go_wp2_with (fail)
  go_at_call 41; refine (mi.out _ _ hv4).mono ?_; rintro e w5 ⟨v5, rfl, hv5, hb⟩
  replace HA := Lib.hid (HA.out.later hb)
  replace HS := Lib.hid (HS.out.later hb)
  replace HT := Lib.hid (HT.out.later hb)
  replace HM := Lib.hid (HM.out.later hb)
  have hB5 := Below.go hB4 hb
  clear hb hB4 hv4
  go_wp2_with (fail)
  go_at_call 31; refine (tw.out _ _ hv5).mono ?_; rintro e w6 ⟨rfl, hb⟩
  replace HA := Lib.hid (HA.out.later hb)
  replace HS := Lib.hid (HS.out.later hb)
  replace HT := Lib.hid (HT.out.later hb)
  replace HM := Lib.hid (HM.out.later hb)
  have hB6 := Below.go hB5 hb
  clear hb hB5
  go_upto_region 6 with fail
  obtain ⟨U6, hW⟩ : ∃ U6, U6 = (w6.alloc (.cells #[.int .i64 nh, .int .u64 nl] 50)) := ⟨_, rfl⟩
  have hq : Below w6.heap.size w6 U6 := hW ▸ (Below.al (Below.refl _ _))
  have HN : Hid (Own w6.heap.size [.int .i64 nh, .int .u64 nl] U6) := Lib.hid (hW ▸ (Own.newAt (by simp)))
  rw [← hW]
  clear hW
  obtain ⟨N, eN⟩ : ∃ X, X = w6.heap.size := ⟨_, rfl⟩
  rw [← eN] at HN ⊢
  have Nw : w6.heap.size ≤ N := by omega
  clear eN
  replace HA := Lib.hid (HA.out.later hq)
  replace HS := Lib.hid (HS.out.later hq)
  replace HT := Lib.hid (HT.out.later hq)
  replace HM := Lib.hid (HM.out.later hq)
  have hC6 := Below.go hB6 hq
  clear hq hB6 Nw
  clear hv5
  have oS := HS.out
  have S0 := oS.at 0 _ rfl
  have S1 := oS.at 1 _ rfl
  have Sl := oS.lt
  clear oS
  have oT := HT.out
  have T0 := oT.at 0 _ rfl
  have T1 := oT.at 1 _ rfl
  have Tl := oT.lt
  clear oT
  have oM := HM.out
  have M0 := oM.at 0 _ rfl
  have M1 := oM.at 1 _ rfl
  have Ml := oM.lt
  clear oM
  have oN := HN.out
  have N0 := oN.at 0 _ rfl
  have N1 := oN.at 1 _ rfl
  have Nl := oN.lt
  clear oN
  go_wp2_with (fail)
  go_at_call 37; refine (wk.out _).mono ?_; rintro e w7 ⟨rfl, hb⟩
  go_wp2
  go_ret
  exact ⟨rfl, Below.go hC6 hb⟩

set_option maxHeartbeats 4000000 in
theorem Sums_nil1 (ah al sh sl nh nl y : Int) (so no : Bool) (p : Option Addr) (cap : Nat) (hm : cap ≤ 9223372036854775807) (w : World)
    (ad : Hid (∀ w', Below w.heap.size w w' → Calls Try.prog 38 #[.slice p 0 cap] w' fun e w'' => e = .returned (.tuple #[(.agg #[.int .i64 sh, .int .u64 sl]), .bool so]) ∧ Below w'.heap.size w' w''))
    (rd : Hid (∀ w', Below w.heap.size w w' → Calls Try.prog 39 #[.slice p 0 cap] w' fun e w'' => e = .returned (.tuple #[(.agg #[.int .i64 sh, .int .u64 sl]), .bool so]) ∧ Below w'.heap.size w' w''))
    (ng : Hid (∀ w, Calls Try.prog 40 #[(.agg #[.int .i64 ah, .int .u64 al])] w fun e w' => e = .returned (.tuple #[(.agg #[.int .i64 nh, .int .u64 nl]), .bool no]) ∧ Below w.heap.size w w'))
    (wi : Hid (∀ w, Calls Try.prog 35 #[(.agg #[.int .i64 ah, .int .u64 al])] w (NumE w y)))
    (mi : Hid (∀ v w, NumR w v y → Calls Try.prog 41 #[v] w (NumE w (-y))))
    (tw : Hid (∀ v w, NumR w v (-y) → Calls Try.prog 31 #[v] w fun e w' => e = .returned (.tuple #[(.agg #[.int .i64 nh, .int .u64 nl]), .bool no]) ∧ Below w.heap.size w w'))
    (wk : Hid (∀ w, Calls Try.prog 37 #[] w fun e w' => e = .returned (.bool true) ∧ Below w.heap.size w w')) :
    Calls Try.prog 10 #[.slice p 0 cap, (.agg #[.int .i64 ah, .int .u64 al])] w fun e w' => e = .returned (.bool true) ∧ Below w.heap.size w w' := by
  have e1 : eqB sh sl sh sl = true := by simp [eqB]
  have e2 : eqB nh nl nh nl = true := by simp [eqB]
  go_enter Try.func10, Try.ntmps10
  go_upto_region 2 with fail
  obtain ⟨W0, hW⟩ : ∃ W0, W0 = (w.alloc (.cells #[.int .i64 ah, .int .u64 al] 50)) := ⟨_, rfl⟩
  have hB0 : Below w.heap.size w W0 := hW ▸ (Below.al (Below.refl _ _))
  have HA : Hid (Own w.heap.size [.int .i64 ah, .int .u64 al] W0) := Lib.hid (hW ▸ (Own.newAt (by simp)))
  rw [← hW]
  clear hW
  obtain ⟨A, eA⟩ : ∃ X, X = w.heap.size := ⟨_, rfl⟩
  rw [← eA] at HA ⊢
  have Aw : w.heap.size ≤ A := by omega
  clear eA
  go_wp2_with (fail)
  go_at_call 38; refine (ad.out _ hB0).mono ?_; rintro e w1 ⟨rfl, hb⟩
  replace HA := Lib.hid (HA.out.later hb)
  have hB1 := Below.go hB0 hb
  clear hb hB0
  go_upto_region 3 with fail
  obtain ⟨U1, hW⟩ : ∃ U1, U1 = (w1.alloc (.cells #[.int .i64 sh, .int .u64 sl] 50)) := ⟨_, rfl⟩
  have hq : Below w1.heap.size w1 U1 := hW ▸ (Below.al (Below.refl _ _))
  have HS : Hid (Own w1.heap.size [.int .i64 sh, .int .u64 sl] U1) := Lib.hid (hW ▸ (Own.newAt (by simp)))
  rw [← hW]
  clear hW
  obtain ⟨S, eS⟩ : ∃ X, X = w1.heap.size := ⟨_, rfl⟩
  rw [← eS] at HS ⊢
  have Sw : w1.heap.size ≤ S := by omega
  clear eS
  replace HA := Lib.hid (HA.out.later hq)
  have hC1 := Below.go hB1 hq
  clear hq hB1 Sw
  go_wp2_with (fail)
  go_at_call 39; refine (rd.out _ hC1).mono ?_; rintro e w2 ⟨rfl, hb⟩
  replace HA := Lib.hid (HA.out.later hb)
  replace HS := Lib.hid (HS.out.later hb)
  have hB2 := Below.go hC1 hb
  clear hb hC1
  go_upto_region 4 with fail
  obtain ⟨U2, hW⟩ : ∃ U2, U2 = (w2.alloc (.cells #[.int .i64 sh, .int .u64 sl] 50)) := ⟨_, rfl⟩
  have hq : Below w2.heap.size w2 U2 := hW ▸ (Below.al (Below.refl _ _))
  have HT : Hid (Own w2.heap.size [.int .i64 sh, .int .u64 sl] U2) := Lib.hid (hW ▸ (Own.newAt (by simp)))
  rw [← hW]
  clear hW
  obtain ⟨T, eT⟩ : ∃ X, X = w2.heap.size := ⟨_, rfl⟩
  rw [← eT] at HT ⊢
  have Tw : w2.heap.size ≤ T := by omega
  clear eT
  replace HA := Lib.hid (HA.out.later hq)
  replace HS := Lib.hid (HS.out.later hq)
  have hC2 := Below.go hB2 hq
  clear hq hB2 Tw
  have oA := HA.out
  have A0 := oA.at 0 _ rfl
  have A1 := oA.at 1 _ rfl
  have Al := oA.lt
  clear oA
  go_wp2_with (fail)
  clear A0 A1 Al
  go_at_call 40; refine (ng.out _).mono ?_; rintro e w3 ⟨rfl, hb⟩
  replace HA := Lib.hid (HA.out.later hb)
  replace HS := Lib.hid (HS.out.later hb)
  replace HT := Lib.hid (HT.out.later hb)
  have hB3 := Below.go hC2 hb
  clear hb hC2
  go_upto_region 5 with fail
  obtain ⟨U3, hW⟩ : ∃ U3, U3 = (w3.alloc (.cells #[.int .i64 nh, .int .u64 nl] 50)) := ⟨_, rfl⟩
  have hq : Below w3.heap.size w3 U3 := hW ▸ (Below.al (Below.refl _ _))
  have HM : Hid (Own w3.heap.size [.int .i64 nh, .int .u64 nl] U3) := Lib.hid (hW ▸ (Own.newAt (by simp)))
  rw [← hW]
  clear hW
  obtain ⟨M, eM⟩ : ∃ X, X = w3.heap.size := ⟨_, rfl⟩
  rw [← eM] at HM ⊢
  have Mw : w3.heap.size ≤ M := by omega
  clear eM
  replace HA := Lib.hid (HA.out.later hq)
  replace HS := Lib.hid (HS.out.later hq)
  replace HT := Lib.hid (HT.out.later hq)
  have hC3 := Below.go hB3 hq
  clear hq hB3 Mw
  have oA := HA.out
  have A0 := oA.at 0 _ rfl
  have A1 := oA.at 1 _ rfl
  have Al := oA.lt
  clear oA
  go_wp2_with (fail)
  clear A0 A1 Al
  go_at_call 35; refine (wi.out _).mono ?_; rintro e w4 ⟨v4, rfl, hv4, hb⟩
  replace HA := Lib.hid (HA.out.later hb)
  replace HS := Lib.hid (HS.out.later hb)
  replace HT := Lib.hid (HT.out.later hb)
  replace HM := Lib.hid (HM.out.later hb)
  have hB4 := Below.go hC3 hb
  clear hb hC3
  go_wp2_with (fail)
  go_at_call 41; refine (mi.out _ _ hv4).mono ?_; rintro e w5 ⟨v5, rfl, hv5, hb⟩
  replace HA := Lib.hid (HA.out.later hb)
  replace HS := Lib.hid (HS.out.later hb)
  replace HT := Lib.hid (HT.out.later hb)
  replace HM := Lib.hid (HM.out.later hb)
  have hB5 := Below.go hB4 hb
  clear hb hB4 hv4
  go_wp2_with (fail)
  go_at_call 31; refine (tw.out _ _ hv5).mono ?_; rintro e w6 ⟨rfl, hb⟩
  replace HA := Lib.hid (HA.out.later hb)
  replace HS := Lib.hid (HS.out.later hb)
  replace HT := Lib.hid (HT.out.later hb)
  replace HM := Lib.hid (HM.out.later hb)
  have hB6 := Below.go hB5 hb
  clear hb hB5
  go_upto_region 6 with fail
  obtain ⟨U6, hW⟩ : ∃ U6, U6 = (w6.alloc (.cells #[.int .i64 nh, .int .u64 nl] 50)) := ⟨_, rfl⟩
  have hq : Below w6.heap.size w6 U6 := hW ▸ (Below.al (Below.refl _ _))
  have HN : Hid (Own w6.heap.size [.int .i64 nh, .int .u64 nl] U6) := Lib.hid (hW ▸ (Own.newAt (by simp)))
  rw [← hW]
  clear hW
  obtain ⟨N, eN⟩ : ∃ X, X = w6.heap.size := ⟨_, rfl⟩
  rw [← eN] at HN ⊢
  have Nw : w6.heap.size ≤ N := by omega
  clear eN
  replace HA := Lib.hid (HA.out.later hq)
  replace HS := Lib.hid (HS.out.later hq)
  replace HT := Lib.hid (HT.out.later hq)
  replace HM := Lib.hid (HM.out.later hq)
  have hC6 := Below.go hB6 hq
  clear hq hB6 Nw
  clear hv5
  have oS := HS.out
  have S0 := oS.at 0 _ rfl
  have S1 := oS.at 1 _ rfl
  have Sl := oS.lt
  clear oS
  have oT := HT.out
  have T0 := oT.at 0 _ rfl
  have T1 := oT.at 1 _ rfl
  have Tl := oT.lt
  clear oT
  have oM := HM.out
  have M0 := oM.at 0 _ rfl
  have M1 := oM.at 1 _ rfl
  have Ml := oM.lt
  clear oM
  have oN := HN.out
  have N0 := oN.at 0 _ rfl
  have N1 := oN.at 1 _ rfl
  have Nl := oN.lt
  clear oN
  go_wp2_with (fail)
  go_at_call 37; refine (wk.out _).mono ?_; rintro e w7 ⟨rfl, hb⟩
  go_wp2
  go_ret
  exact ⟨rfl, Below.go hC6 hb⟩
theorem wides {w : World} {p : Option Addr} {n cap : Nat} {f : Nat → List Value} (sl : Sl w p n cap 2 f isWd) : ∃ zs : List Int, zs.length = n ∧ ∀ k, k < n → inW (zs.getD k 0) = true ∧ f k = [.int .i64 (hi (zs.getD k 0)), .int .u64 (lo (zs.getD k 0))] := by
  have ch : ∀ k, ∃ z : Int, k < n → inW z = true ∧ f k = [.int .i64 (hi z), .int .u64 (lo z)] := fun k => by
    by_cases hk : k < n
    · obtain ⟨h, l, e, bh, bl⟩ := sl.q k hk
      refine ⟨h * 18446744073709551616 + l, fun _ => ⟨(inW_iff _).2 (by omega), ?_⟩⟩
      rw [e, show hi (h * 18446744073709551616 + l) = h by unfold hi; omega, show lo (h * 18446744073709551616 + l) = l by unfold lo; omega]
    · exact ⟨0, fun h => absurd h hk⟩
  refine ⟨(List.range n).map fun k => Classical.choose (ch k), by simp, fun k hk => ?_⟩
  have := Classical.choose_spec (ch k) hk
  rw [List.getD_eq_getElem?_getD, List.getElem?_map, List.getElem?_range hk]
  exact this
theorem addV_form (R : Option Int) : ∃ h l b, addV R = .tuple #[.agg #[.int .i64 h, .int .u64 l], .bool b] := by
  cases R with
  | none => exact ⟨_, _, _, rfl⟩
  | some z => exact ⟨_, _, _, rfl⟩
theorem Sums_law (p : Option Addr) (n cap : Nat) (f : Nat → List Value) (ah al : Int) (bh : -9223372036854775808 ≤ ah ∧ ah ≤ 9223372036854775807) (bl : 0 ≤ al ∧ al ≤ 18446744073709551615) (w : World) (sl : Sl w p n cap 2 f isWd) :
    Calls Try.prog 10 #[.slice p n cap, (.agg #[.int .i64 ah, .int .u64 al])] w fun e w' => e = .returned (.bool true) ∧ Below w.heap.size w w' := by
  obtain ⟨z, hz⟩ : ∃ z, z = ah * 18446744073709551616 + al := ⟨_, rfl⟩
  have eh : hi z = ah := by unfold hi; omega
  have el : lo z = al := by unfold lo; omega
  have z0 : -170141183460469231731687303715884105728 ≤ z := by omega
  have z1 : z < 170141183460469231731687303715884105728 := by omega
  have wi := fun w => wide_any z z0 z1 w
  rw [eh, el] at wi
  have mi := fun v w hv => minus_any v z w hv
  obtain ⟨nh, nl, no, ng, tw⟩ : ∃ (nh nl : Int) (no : Bool), (∀ w, Calls Try.prog 40 #[(.agg #[.int .i64 ah, .int .u64 al])] w fun e w' => e = .returned (.tuple #[(.agg #[.int .i64 nh, .int .u64 nl]), .bool no]) ∧ Below w.heap.size w w') ∧ ∀ v w, NumR w v (-z) → Calls Try.prog 31 #[v] w fun e w' => e = .returned (.tuple #[(.agg #[.int .i64 nh, .int .u64 nl]), .bool no]) ∧ Below w.heap.size w w' := by
    by_cases hm : z = -170141183460469231731687303715884105728
    · have e1 : ah = -9223372036854775808 := by omega
      have e2 : al = 0 := by omega
      refine ⟨0, 0, false, fun w => ?_, fun v w hv => ?_⟩
      · rw [e1, e2]; exact Neg_no w
      · have := ToWide_v v (-z) w hv (by unfold SMALL; omega)
        rw [show inW (-z) = false by rw [hm]; decide] at this
        exact this
    · refine ⟨hi (-z), lo (-z), true, fun w => ?_, fun v w hv => ?_⟩
      · have := Neg_yes z (by omega) z1 w
        rw [eh, el] at this
        exact this
      · have := ToWide_v v (-z) w hv (by unfold SMALL; omega)
        rw [(inW_iff (-z)).2 (by omega)] at this
        exact this
  have lt : ∀ w', Below w.heap.size w w' → ∀ blk, blk < w.heap.size → blk < w'.heap.size := fun w' h blk hb => Nat.lt_of_lt_of_le hb h.size
  rcases sl.row with rfl | ⟨blk, off, rfl, hb, hr⟩
  · exact Sums_nil1 ah al 0 0 nh nl z true no p cap sl.max w (Lib.hid fun w' _ => WAdd_nil p cap w') (Lib.hid fun w' _ => RAdd_nil1 p cap w') (Lib.hid ng) (Lib.hid wi) (Lib.hid mi) (Lib.hid tw) (Lib.hid works_any)
  · have adds : ∀ m, m ≤ n → m ≤ 4611686018427387904 → ∃ sh sl_ so, (∀ w', Below w.heap.size w w' → Calls Try.prog 38 #[.slice (some ⟨blk, off, none⟩) m cap] w' fun e w'' => e = .returned (.tuple #[(.agg #[.int .i64 sh, .int .u64 sl_]), .bool so]) ∧ Below w'.heap.size w' w'') ∧ (∀ w', Below w.heap.size w w' → Calls Try.prog 39 #[.slice (some ⟨blk, off, none⟩) m cap] w' fun e w'' => e = .returned (.tuple #[(.agg #[.int .i64 sh, .int .u64 sl_]), .bool so]) ∧ Below w'.heap.size w' w'') := fun m hm hM => by
      obtain ⟨zs, hn, hq⟩ := wides (sl.take hm)
      obtain ⟨sh, sl_, so, e⟩ := addV_form (addR 0 zs)
      have cells : ∀ w', Below w.heap.size w w' → ∀ k, k < m → w'.cell? ⟨blk, off + k * 2, none⟩ = some (.int .i64 (hi (zs.getD k 0))) ∧ w'.cell? ⟨blk, off + k * 2 + 1, none⟩ = some (.int .u64 (lo (zs.getD k 0))) := fun w' h k hk => by
        have hx := (hr k (by omega)).later h
        rw [(hq k hk).2] at hx
        exact ⟨hx.at 0 _ rfl, hx.at 1 _ rfl⟩
      refine ⟨sh, sl_, so, fun w' h => ?_, fun w' h => ?_⟩
      · rw [← e]
        exact Add_walk blk off m cap zs _ hn hM w' (lt w' h blk hb) (fun k hk => (hq k hk).1) (cells w' h) rfl
      · rw [← e]
        exact RAdd_walk blk off m cap zs _ hn hM w' (lt w' h blk hb) (fun k hk => (hq k hk).1) (cells w' h) rfl
    by_cases h8 : n ≤ 8
    · obtain ⟨sh, sl_, so, a1, a2⟩ := adds n (Nat.le_refl _) (by omega)
      exact Sums_few1 ah al sh sl_ nh nl z so no blk off n cap sl.le sl.max (by omega) w (Lib.hid a1) (Lib.hid a2) (Lib.hid ng) (Lib.hid wi) (Lib.hid mi) (Lib.hid tw) (Lib.hid works_any)
    · obtain ⟨sh, sl_, so, a1, a2⟩ := adds 8 (by omega) (by omega)
      exact Sums_many1 ah al sh sl_ nh nl z so no blk off n cap sl.le sl.max (by omega) w (Lib.hid a1) (Lib.hid a2) (Lib.hid ng) (Lib.hid wi) (Lib.hid mi) (Lib.hid tw) (Lib.hid works_any)
end Go.Proofs.Ytgggngcgcpmkbaa
