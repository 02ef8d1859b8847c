/- AU AY BB BC BD BE PBMakes, in one text. -/
import Derived.Test.YtgggngcgcpmkbaaKA
import Derived.Test.YtgggngcgcpmkbaaVN
import Derived.Deep.DeepCutAuto
import Derived.LoopN
import Derived.Deep.RegionHeld3
import Derived.Test.YtgggngcgcpmkbaaAE
import Derived.Test.YtgggngcgcpmkbaaAH
import Derived.Test.YtgggngcgcpmkbaaAT
import Derived.Test.YtgggngcgcpmkbaaAM
import Derived.Test.YtgggngcgcpmkbaaPS
import Derived.Test.YtgggngcgcpmkbaaPG
import Derived.Test.YtgggngcgcpmkbaaRows
import Derived.WalkKit
import Derived.ProofKit
import Derived.OpenShut
import Derived.ChangeSlices
import Derived.Lib.SmallJoins
/- AU -/
namespace Go.Proofs.Ytgggngcgcpmkbaa
set_option linter.unusedVariables false
set_option maxRecDepth 2000
set_option linter.unusedSimpArgs false
open Go.RowKit
attribute [local go_sem] setCell_twice setCell_pair

set_option maxHeartbeats 4000000 in
theorem RSame_any (w : World) : Calls Try.prog 48 #[] w fun e w' => e = .returned (.agg #[.int .i64 4294967296, .int .i64 0, .int .i64 0, .int .i64 0, .int .i64 4294967296, .int .i64 0, .int .i64 0, .int .i64 0, .int .i64 4294967296, .int .i64 0, .int .i64 0, .int .i64 0]) ∧ Below w.heap.size w w' := by
  go_enter Try.func48, Try.ntmps48
  go_upto_region 1 with fail
  obtain ⟨W0, hW⟩ : ∃ W0, W0 = (w.alloc (.cells #[.int .i64 0, .int .i64 0, .int .i64 0, .int .i64 0, .int .i64 0, .int .i64 0, .int .i64 0, .int .i64 0, .int .i64 0, .int .i64 0, .int .i64 0, .int .i64 0] 80)) := ⟨_, rfl⟩
  have hB0 : Below w.heap.size w W0 := hW ▸ (Below.al (Below.refl _ _))
  have HR : Hid (Own w.heap.size [.int .i64 0, .int .i64 0, .int .i64 0, .int .i64 0, .int .i64 0, .int .i64 0, .int .i64 0, .int .i64 0, .int .i64 0, .int .i64 0, .int .i64 0, .int .i64 0] W0) := Lib.hid (hW ▸ (Own.newAt (by simp)))
  rw [← hW]
  clear hW
  obtain ⟨R, eR⟩ : ∃ X, X = w.heap.size := ⟨_, rfl⟩
  rw [← eR] at HR ⊢
  have Rw : w.heap.size ≤ R := by omega
  clear eR
  go_upto_region 2 with fail
  obtain ⟨W1, hW⟩ : ∃ W1, W1 = (W0.alloc (.cells #[.int .i64 0, .int .i64 0, .int .i64 0, .int .i64 0, .int .i64 0, .int .i64 0, .int .i64 0, .int .i64 0, .int .i64 0, .int .i64 0, .int .i64 0, .int .i64 0] 80)) := ⟨_, rfl⟩
  have hB1 : Below W0.heap.size W0 W1 := hW ▸ (Below.al (Below.refl _ _))
  have HD : Hid (Own W0.heap.size [.int .i64 0, .int .i64 0, .int .i64 0, .int .i64 0, .int .i64 0, .int .i64 0, .int .i64 0, .int .i64 0, .int .i64 0, .int .i64 0, .int .i64 0, .int .i64 0] W1) := Lib.hid (hW ▸ (Own.newAt (by simp)))
  rw [← hW]
  clear hW
  obtain ⟨D, eD⟩ : ∃ X, X = W0.heap.size := ⟨_, rfl⟩
  rw [← eD] at HD ⊢
  have Dw : W0.heap.size ≤ D := by omega
  clear eD
  have nRD : R ≠ D := by have := HR.out.lt; omega
  replace HR := Lib.hid (HR.out.later hB1)
  have Dww : w.heap.size ≤ D := by have := hB0.size; omega
  have hB2 : Below w.heap.size w W1 := Below.go hB0 hB1
  clear hB0 hB1 Dw
  have oD := HD.out
  have D0 := oD.at 0 _ rfl
  have Df0 := oD.ok 0 (by simp)
  have D1 := oD.at 1 _ rfl
  have Df1 := oD.ok 1 (by simp)
  have D2 := oD.at 2 _ rfl
  have Df2 := oD.ok 2 (by simp)
  have D3 := oD.at 3 _ rfl
  have Df3 := oD.ok 3 (by simp)
  have D4 := oD.at 4 _ rfl
  have Df4 := oD.ok 4 (by simp)
  have D5 := oD.at 5 _ rfl
  have Df5 := oD.ok 5 (by simp)
  have D6 := oD.at 6 _ rfl
  have Df6 := oD.ok 6 (by simp)
  have D7 := oD.at 7 _ rfl
  have Df7 := oD.ok 7 (by simp)
  have D8 := oD.at 8 _ rfl
  have Df8 := oD.ok 8 (by simp)
  have D9 := oD.at 9 _ rfl
  have Df9 := oD.ok 9 (by simp)
  have D10 := oD.at 10 _ rfl
  have Df10 := oD.ok 10 (by simp)
  have D11 := oD.at 11 _ rfl
  have Df11 := oD.ok 11 (by simp)
  have Dl := oD.lt
  clear oD
  go_upto_region 3 with fail
  clear D0 Df0 D1 Df1 D2 Df2 D3 Df3 D4 Df4 D5 Df5 D6 Df6 D7 Df7 D8 Df8 D9 Df9 D10 Df10 D11 Df11 Dl
  have e3 : (((W1.setCell ⟨D, 0, none⟩ (.int .i64 4294967296)).setCell ⟨D, 4, none⟩ (.int .i64 4294967296)).setCell ⟨D, 8, none⟩ (.int .i64 4294967296)) = (((W1.setCells D 0 [.int .i64 4294967296]).setCells D 4 [.int .i64 4294967296]).setCells D 8 [.int .i64 4294967296]) := rfl
  rw [e3]
  have HD3 : Hid (Own D [.int .i64 4294967296, .int .i64 0, .int .i64 0, .int .i64 0, .int .i64 4294967296, .int .i64 0, .int .i64 0, .int .i64 0, .int .i64 4294967296, .int .i64 0, .int .i64 0, .int .i64 0] (((W1.setCells D 0 [.int .i64 4294967296]).setCells D 4 [.int .i64 4294967296]).setCells D 8 [.int .i64 4294967296])) := Lib.hid (show Own D (over (over (over _ 0 [.int .i64 4294967296]) 4 [.int .i64 4294967296]) 8 [.int .i64 4294967296]) _ from Own.part (Own.part (Own.part HD.out (by simp)) (by simp [over])) (by simp [over]))
  have HR3 : Hid (Own R [.int .i64 0, .int .i64 0, .int .i64 0, .int .i64 0, .int .i64 0, .int .i64 0, .int .i64 0, .int .i64 0, .int .i64 0, .int .i64 0, .int .i64 0, .int .i64 0] (((W1.setCells D 0 [.int .i64 4294967296]).setCells D 4 [.int .i64 4294967296]).setCells D 8 [.int .i64 4294967296])) := Lib.hid (((HR.out.far nRD).far nRD).far nRD)
  have hB3 : Below w.heap.size w (((W1.setCells D 0 [.int .i64 4294967296]).setCells D 4 [.int .i64 4294967296]).setCells D 8 [.int .i64 4294967296]) := Below.setCells (Below.setCells (Below.setCells hB2 Dww _ _) Dww _ _) Dww _ _
  generalize (((W1.setCells D 0 [.int .i64 4294967296]).setCells D 4 [.int .i64 4294967296]).setCells D 8 [.int .i64 4294967296]) = W2 at *
  clear HD HR hB2 e3
  have oD := HD3.out
  have D0 := oD.at 0 _ rfl
  have D1 := oD.at 1 _ rfl
  have D2 := oD.at 2 _ rfl
  have D3 := oD.at 3 _ rfl
  have D4 := oD.at 4 _ rfl
  have D5 := oD.at 5 _ rfl
  have D6 := oD.at 6 _ rfl
  have D7 := oD.at 7 _ rfl
  have D8 := oD.at 8 _ rfl
  have D9 := oD.at 9 _ rfl
  have D10 := oD.at 10 _ rfl
  have D11 := oD.at 11 _ rfl
  have Dl := oD.lt
  clear oD
  have oR := HR3.out
  have R0 := oR.at 0 _ rfl
  have Rf0 := oR.ok 0 (by simp)
  have R1 := oR.at 1 _ rfl
  have Rf1 := oR.ok 1 (by simp)
  have R2 := oR.at 2 _ rfl
  have Rf2 := oR.ok 2 (by simp)
  have R3 := oR.at 3 _ rfl
  have Rf3 := oR.ok 3 (by simp)
  have R4 := oR.at 4 _ rfl
  have Rf4 := oR.ok 4 (by simp)
  have R5 := oR.at 5 _ rfl
  have Rf5 := oR.ok 5 (by simp)
  have R6 := oR.at 6 _ rfl
  have Rf6 := oR.ok 6 (by simp)
  have R7 := oR.at 7 _ rfl
  have Rf7 := oR.ok 7 (by simp)
  have R8 := oR.at 8 _ rfl
  have Rf8 := oR.ok 8 (by simp)
  have R9 := oR.at 9 _ rfl
  have Rf9 := oR.ok 9 (by simp)
  have R10 := oR.at 10 _ rfl
  have Rf10 := oR.ok 10 (by simp)
  have R11 := oR.at 11 _ rfl
  have Rf11 := oR.ok 11 (by simp)
  have Rl := oR.lt
  clear oR
  clear HD3 HR3
  go_wp2_with (fail)
  exact bodyPost_ret (v := (.agg #[.int .i64 4294967296, .int .i64 0, .int .i64 0, .int .i64 0, .int .i64 4294967296, .int .i64 0, .int .i64 0, .int .i64 0, .int .i64 4294967296, .int .i64 0, .int .i64 0, .int .i64 0])) (by simp [results, Try.results48, go_sem, R0, R1, R2, R3, R4, R5, R6, R7, R8, R9, R10, R11]) rfl ⟨rfl, by repeat (first | (with_reducible assumption) | (with_reducible exact Below.refl _ _) | (with_reducible refine Below.al ?_) | (with_reducible refine Below.setCell ?_ (by first | assumption | (simp; done) | (simp; omega)) _))⟩

set_option maxHeartbeats 4000000 in
theorem RMove_any (x y z : Int) (w : World) : Calls Try.prog 50 #[(.agg #[.int .i64 x, .int .i64 y, .int .i64 z])] w fun e w' => e = .returned (.agg #[.int .i64 4294967296, .int .i64 0, .int .i64 0, .int .i64 0, .int .i64 4294967296, .int .i64 0, .int .i64 0, .int .i64 0, .int .i64 4294967296, .int .i64 x, .int .i64 y, .int .i64 z]) ∧ Below w.heap.size w w' := by
  have sm := Lib.hid RSame_any
  go_enter Try.func50, Try.ntmps50
  go_upto_region 1 with fail
  obtain ⟨W0, hW⟩ : ∃ W0, W0 = ((w.alloc (.cells #[.int .i64 x, .int .i64 y, .int .i64 z] 36)).alloc (.cells #[.int .i64 0, .int .i64 0, .int .i64 0, .int .i64 0, .int .i64 0, .int .i64 0, .int .i64 0, .int .i64 0, .int .i64 0, .int .i64 0, .int .i64 0, .int .i64 0] 80)) := ⟨_, rfl⟩
  have hB0 : Below w.heap.size w W0 := hW ▸ (Below.al (Below.al (Below.refl _ _)))
  have HV : Hid (Own w.heap.size [.int .i64 x, .int .i64 y, .int .i64 z] W0) := Lib.hid (hW ▸ (Own.newAt (by simp)).alloc)
  have HR : Hid (Own (w.heap.size + 1) [.int .i64 0, .int .i64 0, .int .i64 0, .int .i64 0, .int .i64 0, .int .i64 0, .int .i64 0, .int .i64 0, .int .i64 0, .int .i64 0, .int .i64 0, .int .i64 0] W0) := Lib.hid (hW ▸ (Own.newAt (by simp)))
  rw [← hW]
  clear hW
  obtain ⟨R, eR⟩ : ∃ X, X = (w.heap.size + 1) := ⟨_, rfl⟩
  rw [← eR] at HR ⊢
  have Rw : w.heap.size ≤ R := by omega
  obtain ⟨V, eV⟩ : ∃ X, X = w.heap.size := ⟨_, rfl⟩
  rw [← eV] at HV ⊢
  have Vw : w.heap.size ≤ V := by omega
  have nVR : V ≠ R := by omega
  have nRV : R ≠ V := by omega
  clear eV eR
  go_upto_region 3 with (go_at_call 48; refine (sm.out _).mono ?_; rintro e w1 ⟨rfl, hb⟩; have oV := HV.out.later hb; have v0 := oV.at 0 _ rfl; have v1 := oV.at 1 _ rfl; have v2 := oV.at 2 _ rfl; have hVl := oV.lt; clear oV)
  have HR1 := Lib.hid (HR.out.later hb)
  clear HV HR v0 v1 v2 hVl
  obtain ⟨W1, hW⟩ : ∃ W1, W1 = (w1.alloc (.cells #[.int .i64 4294967296, .int .i64 0, .int .i64 0, .int .i64 0, .int .i64 4294967296, .int .i64 0, .int .i64 0, .int .i64 0, .int .i64 4294967296, .int .i64 x, .int .i64 y, .int .i64 z] 80)) := ⟨_, rfl⟩
  have hB1 : Below w1.heap.size w1 W1 := hW ▸ (Below.al (Below.refl _ _))
  have HN : Hid (Own w1.heap.size [.int .i64 4294967296, .int .i64 0, .int .i64 0, .int .i64 0, .int .i64 4294967296, .int .i64 0, .int .i64 0, .int .i64 0, .int .i64 4294967296, .int .i64 x, .int .i64 y, .int .i64 z] W1) := Lib.hid (hW ▸ (Own.newAt (by simp)))
  rw [← hW]
  clear hW
  obtain ⟨N, eN⟩ : ∃ X, X = w1.heap.size := ⟨_, rfl⟩
  rw [← eN] at HN ⊢
  have Nw : w1.heap.size ≤ N := by omega
  clear eN
  have HR2 := Lib.hid (HR1.out.later hB1)
  have hB2 : Below w.heap.size w W1 := Below.go (Below.go hB0 hb) hB1
  clear HR1 hB1 hb hB0
  have oN := HN.out
  have N0 := oN.at 0 _ rfl
  have N1 := oN.at 1 _ rfl
  have N2 := oN.at 2 _ rfl
  have N3 := oN.at 3 _ rfl
  have N4 := oN.at 4 _ rfl
  have N5 := oN.at 5 _ rfl
  have N6 := oN.at 6 _ rfl
  have N7 := oN.at 7 _ rfl
  have N8 := oN.at 8 _ rfl
  have N9 := oN.at 9 _ rfl
  have N10 := oN.at 10 _ rfl
  have N11 := oN.at 11 _ rfl
  have Nl := oN.lt
  clear oN
  have oR := HR2.out
  have R0 := oR.at 0 _ rfl
  have Rf0 := oR.ok 0 (by simp)
  have R1 := oR.at 1 _ rfl
  have Rf1 := oR.ok 1 (by simp)
  have R2 := oR.at 2 _ rfl
  have Rf2 := oR.ok 2 (by simp)
  have R3 := oR.at 3 _ rfl
  have Rf3 := oR.ok 3 (by simp)
  have R4 := oR.at 4 _ rfl
  have Rf4 := oR.ok 4 (by simp)
  have R5 := oR.at 5 _ rfl
  have Rf5 := oR.ok 5 (by simp)
  have R6 := oR.at 6 _ rfl
  have Rf6 := oR.ok 6 (by simp)
  have R7 := oR.at 7 _ rfl
  have Rf7 := oR.ok 7 (by simp)
  have R8 := oR.at 8 _ rfl
  have Rf8 := oR.ok 8 (by simp)
  have R9 := oR.at 9 _ rfl
  have Rf9 := oR.ok 9 (by simp)
  have R10 := oR.at 10 _ rfl
  have Rf10 := oR.ok 10 (by simp)
  have R11 := oR.at 11 _ rfl
  have Rf11 := oR.ok 11 (by simp)
  have Rl := oR.lt
  clear oR
  clear HN HR2
  go_wp2_with (fail)
  exact bodyPost_ret (v := (.agg #[.int .i64 4294967296, .int .i64 0, .int .i64 0, .int .i64 0, .int .i64 4294967296, .int .i64 0, .int .i64 0, .int .i64 0, .int .i64 4294967296, .int .i64 x, .int .i64 y, .int .i64 z])) (by simp [results, Try.results50, go_sem, R0, R1, R2, R3, R4, R5, R6, R7, R8, R9, R10, R11]) rfl ⟨rfl, by repeat (first | (with_reducible assumption) | (with_reducible exact Below.refl _ _) | (with_reducible refine Below.al ?_) | (with_reducible refine Below.setCell ?_ (by first | assumption | (simp; done) | (simp; omega)) _))⟩
end Go.Proofs.Ytgggngcgcpmkbaa

/- AY -/
namespace Go.Proofs.Ytgggngcgcpmkbaa
set_option linter.unusedVariables false
set_option maxRecDepth 2000
set_option linter.unusedSimpArgs false
open Go.RowKit
attribute [local go_sem] setCell_twice setCell_pair

set_option maxHeartbeats 4000000 in
theorem RAxes_0 (p : Option Addr) (cap : Nat) (w : World) : Calls Try.prog 54 #[.slice p 0 cap] w fun e w' => e = .returned (.agg #[.int .i64 4294967296, .int .i64 0, .int .i64 0, .int .i64 0, .int .i64 4294967296, .int .i64 0, .int .i64 0, .int .i64 0, .int .i64 4294967296, .int .i64 0, .int .i64 0, .int .i64 0]) ∧ Below w.heap.size w w' := by
  have sm := Lib.hid RSame_any
  go_enter Try.func54, Try.ntmps54
  go_upto_region 1 with fail
  obtain ⟨W0, hW⟩ : ∃ W0, W0 = (w.alloc (.cells #[.int .i64 0, .int .i64 0, .int .i64 0, .int .i64 0, .int .i64 0, .int .i64 0, .int .i64 0, .int .i64 0, .int .i64 0, .int .i64 0, .int .i64 0, .int .i64 0] 80)) := ⟨_, rfl⟩
  have hB0 : Below w.heap.size w W0 := hW ▸ (Below.al (Below.refl _ _))
  have HR : Hid (Own w.heap.size [.int .i64 0, .int .i64 0, .int .i64 0, .int .i64 0, .int .i64 0, .int .i64 0, .int .i64 0, .int .i64 0, .int .i64 0, .int .i64 0, .int .i64 0, .int .i64 0] W0) := Lib.hid (hW ▸ (Own.newAt (by simp)))
  rw [← hW]
  clear hW
  obtain ⟨R, eR⟩ : ∃ X, X = w.heap.size := ⟨_, rfl⟩
  rw [← eR] at HR ⊢
  have Rw : w.heap.size ≤ R := by omega
  clear eR
  go_wp2_with (fail)
  go_at_call 48; refine (sm.out _).mono ?_; rintro e w1 ⟨rfl, hb⟩
  replace HR := Lib.hid (HR.out.later hb)
  have hB1 := Below.go hB0 hb
  clear hb hB0 sm
  go_upto_region 2 with fail
  obtain ⟨W1, hW⟩ : ∃ W1, W1 = (w1.alloc (.cells #[.int .i64 4294967296, .int .i64 0, .int .i64 0, .int .i64 0, .int .i64 4294967296, .int .i64 0, .int .i64 0, .int .i64 0, .int .i64 4294967296, .int .i64 0, .int .i64 0, .int .i64 0] 80)) := ⟨_, rfl⟩
  have hq : Below w1.heap.size w1 W1 := hW ▸ (Below.al (Below.refl _ _))
  have HD : Hid (Own w1.heap.size [.int .i64 4294967296, .int .i64 0, .int .i64 0, .int .i64 0, .int .i64 4294967296, .int .i64 0, .int .i64 0, .int .i64 0, .int .i64 4294967296, .int .i64 0, .int .i64 0, .int .i64 0] W1) := Lib.hid (hW ▸ (Own.newAt (by simp)))
  rw [← hW]
  clear hW
  obtain ⟨D, eD⟩ : ∃ X, X = w1.heap.size := ⟨_, rfl⟩
  rw [← eD] at HD ⊢
  have Dw : w1.heap.size ≤ D := by omega
  clear eD
  have nRD : R ≠ D := by have := HR.out.lt; omega
  replace HR := Lib.hid (HR.out.later hq)
  have Dww : w.heap.size ≤ D := by have := hB1.size; omega
  have hB2 : Below w.heap.size w W1 := Below.go hB1 hq
  clear hB1 hq Dw
  have Dw := Dww
  clear Dww
  go_wp2_with (fail)
  refine wp_loop_rounds 4 ?_
  rw [rounds_succ]
  have oD := HD.out
  have D0 := oD.at 0 _ rfl
  have D1 := oD.at 1 _ rfl
  have D2 := oD.at 2 _ rfl
  have D3 := oD.at 3 _ rfl
  have D4 := oD.at 4 _ rfl
  have D5 := oD.at 5 _ rfl
  have D6 := oD.at 6 _ rfl
  have D7 := oD.at 7 _ rfl
  have D8 := oD.at 8 _ rfl
  have D9 := oD.at 9 _ rfl
  have D10 := oD.at 10 _ rfl
  have D11 := oD.at 11 _ rfl
  have Dl := oD.lt
  clear oD
  have oR := HR.out
  have R0 := oR.at 0 _ rfl
  have Rf0 := oR.ok 0 (by simp)
  have R1 := oR.at 1 _ rfl
  have Rf1 := oR.ok 1 (by simp)
  have R2 := oR.at 2 _ rfl
  have Rf2 := oR.ok 2 (by simp)
  have R3 := oR.at 3 _ rfl
  have Rf3 := oR.ok 3 (by simp)
  have R4 := oR.at 4 _ rfl
  have Rf4 := oR.ok 4 (by simp)
  have R5 := oR.at 5 _ rfl
  have Rf5 := oR.ok 5 (by simp)
  have R6 := oR.at 6 _ rfl
  have Rf6 := oR.ok 6 (by simp)
  have R7 := oR.at 7 _ rfl
  have Rf7 := oR.ok 7 (by simp)
  have R8 := oR.at 8 _ rfl
  have Rf8 := oR.ok 8 (by simp)
  have R9 := oR.at 9 _ rfl
  have Rf9 := oR.ok 9 (by simp)
  have R10 := oR.at 10 _ rfl
  have Rf10 := oR.ok 10 (by simp)
  have R11 := oR.at 11 _ rfl
  have Rf11 := oR.ok 11 (by simp)
  have Rl := oR.lt
  clear oR
  go_wp2
  exact bodyPost_ret (v := (.agg #[.int .i64 4294967296, .int .i64 0, .int .i64 0, .int .i64 0, .int .i64 4294967296, .int .i64 0, .int .i64 0, .int .i64 0, .int .i64 4294967296, .int .i64 0, .int .i64 0, .int .i64 0])) (by simp [results, Try.results54, go_sem, R0, R1, R2, R3, R4, R5, R6, R7, R8, R9, R10, R11]) rfl ⟨rfl, by repeat (first | (with_reducible assumption) | (with_reducible refine Below.setCell ?_ (by first | assumption | (simp; omega)) _))⟩

set_option maxHeartbeats 4000000 in
theorem RAxes_1 (x0 y0 z0 : Int) (blk off cap : Nat) (w : World) (hx : Has blk off [.int .i64 x0, .int .i64 y0, .int .i64 z0] w) : Calls Try.prog 54 #[.slice (some ⟨blk, off, none⟩) 1 cap] w fun e w' => e = .returned (.agg #[.int .i64 x0, .int .i64 0, .int .i64 0, .int .i64 y0, .int .i64 4294967296, .int .i64 0, .int .i64 z0, .int .i64 0, .int .i64 4294967296, .int .i64 0, .int .i64 0, .int .i64 0]) ∧ Below w.heap.size w w' := by
  have sm := Lib.hid RSame_any
  have HX := Lib.hid hx
  clear hx
  go_enter Try.func54, Try.ntmps54
  go_upto_region 1 with fail
  obtain ⟨W0, hW⟩ : ∃ W0, W0 = (w.alloc (.cells #[.int .i64 0, .int .i64 0, .int .i64 0, .int .i64 0, .int .i64 0, .int .i64 0, .int .i64 0, .int .i64 0, .int .i64 0, .int .i64 0, .int .i64 0, .int .i64 0] 80)) := ⟨_, rfl⟩
  have hB0 : Below w.heap.size w W0 := hW ▸ (Below.al (Below.refl _ _))
  have HR : Hid (Own w.heap.size [.int .i64 0, .int .i64 0, .int .i64 0, .int .i64 0, .int .i64 0, .int .i64 0, .int .i64 0, .int .i64 0, .int .i64 0, .int .i64 0, .int .i64 0, .int .i64 0] W0) := Lib.hid (hW ▸ (Own.newAt (by simp)))
  rw [← hW]
  clear hW
  obtain ⟨R, eR⟩ : ∃ X, X = w.heap.size := ⟨_, rfl⟩
  rw [← eR] at HR ⊢
  have Rw : w.heap.size ≤ R := by omega
  clear eR
  go_wp2_with (fail)
  go_at_call 48; refine (sm.out _).mono ?_; rintro e w1 ⟨rfl, hb⟩
  replace HR := Lib.hid (HR.out.later hb)
  replace HX := Lib.hid ((HX.out.below hB0 HX.out.lt).later hb)
  have hB1 := Below.go hB0 hb
  clear hb hB0 sm
  go_upto_region 2 with fail
  obtain ⟨W1, hW⟩ : ∃ W1, W1 = (w1.alloc (.cells #[.int .i64 4294967296, .int .i64 0, .int .i64 0, .int .i64 0, .int .i64 4294967296, .int .i64 0, .int .i64 0, .int .i64 0, .int .i64 4294967296, .int .i64 0, .int .i64 0, .int .i64 0] 80)) := ⟨_, rfl⟩
  have hq : Below w1.heap.size w1 W1 := hW ▸ (Below.al (Below.refl _ _))
  have HD : Hid (Own w1.heap.size [.int .i64 4294967296, .int .i64 0, .int .i64 0, .int .i64 0, .int .i64 4294967296, .int .i64 0, .int .i64 0, .int .i64 0, .int .i64 4294967296, .int .i64 0, .int .i64 0, .int .i64 0] W1) := Lib.hid (hW ▸ (Own.newAt (by simp)))
  rw [← hW]
  clear hW
  obtain ⟨D, eD⟩ : ∃ X, X = w1.heap.size := ⟨_, rfl⟩
  rw [← eD] at HD ⊢
  have Dw : w1.heap.size ≤ D := by omega
  clear eD
  have nRD : R ≠ D := by have := HR.out.lt; omega
  have nbD : blk ≠ D := by have := HX.out.lt; omega
  replace HR := Lib.hid (HR.out.later hq)
  replace HX := Lib.hid (HX.out.later hq)
  have Dww : w.heap.size ≤ D := by have := hB1.size; omega
  have hB2 : Below w.heap.size w W1 := Below.go hB1 hq
  clear hB1 hq Dw
  have Dw := Dww
  clear Dww
  go_wp2_with (fail)
  refine wp_loop_rounds 4 ?_
  rw [rounds_succ]
  have oD := HD.out
  have D0 := oD.at 0 _ rfl
  have Df0 := oD.ok 0 (by simp)
  have D3 := oD.at 3 _ rfl
  have Df3 := oD.ok 3 (by simp)
  have D6 := oD.at 6 _ rfl
  have Df6 := oD.ok 6 (by simp)
  have Dl := oD.lt
  clear oD
  have oX := HX.out
  have k0 : W1.cell? ⟨blk, off, none⟩ = some (.int .i64 x0) := oX.at 0 _ rfl
  have k1 : W1.cell? ⟨blk, off + 1, none⟩ = some (.int .i64 y0) := oX.at 1 _ rfl
  have k2 : W1.cell? ⟨blk, off + 2, none⟩ = some (.int .i64 z0) := oX.at 2 _ rfl
  have Xl := oX.lt
  clear oX
  go_wp2_with (fail)
  clear k0 k1 k2 Xl D0 Df0 D3 Df3 D6 Df6 Dl
  rw [show (((W1.setCell ⟨D, 0, none⟩ (.int .i64 x0)).setCell ⟨D, 3, none⟩ (.int .i64 y0)).setCell ⟨D, 6, none⟩ (.int .i64 z0)) = (((W1.setCells D 0 [.int .i64 x0]).setCells D 3 [.int .i64 y0]).setCells D 6 [.int .i64 z0]) from rfl]
  have HDn : Hid (Own D [.int .i64 x0, .int .i64 0, .int .i64 0, .int .i64 y0, .int .i64 4294967296, .int .i64 0, .int .i64 z0, .int .i64 0, .int .i64 4294967296, .int .i64 0, .int .i64 0, .int .i64 0] (((W1.setCells D 0 [.int .i64 x0]).setCells D 3 [.int .i64 y0]).setCells D 6 [.int .i64 z0])) := Lib.hid (show Own D (over (over (over _ 0 [.int .i64 x0]) 3 [.int .i64 y0]) 6 [.int .i64 z0]) _ from Own.part (Own.part (Own.part HD.out (by simp)) (by simp [over])) (by simp [over]))
  have HRn : Hid (Own R [.int .i64 0, .int .i64 0, .int .i64 0, .int .i64 0, .int .i64 0, .int .i64 0, .int .i64 0, .int .i64 0, .int .i64 0, .int .i64 0, .int .i64 0, .int .i64 0] (((W1.setCells D 0 [.int .i64 x0]).setCells D 3 [.int .i64 y0]).setCells D 6 [.int .i64 z0])) := Lib.hid (((HR.out.far nRD).far nRD).far nRD)
  have HXn : Hid (Has blk off [.int .i64 x0, .int .i64 y0, .int .i64 z0] (((W1.setCells D 0 [.int .i64 x0]).setCells D 3 [.int .i64 y0]).setCells D 6 [.int .i64 z0])) := Lib.hid (((HX.out.far nbD).far nbD).far nbD)
  have hBn : Below w.heap.size w (((W1.setCells D 0 [.int .i64 x0]).setCells D 3 [.int .i64 y0]).setCells D 6 [.int .i64 z0]) := Below.setCells (Below.setCells (Below.setCells hB2 Dw _ _) Dw _ _) Dw _ _
  generalize (((W1.setCells D 0 [.int .i64 x0]).setCells D 3 [.int .i64 y0]).setCells D 6 [.int .i64 z0]) = V0 at *
  clear HD HR HX hB2
  have HD := HDn; have HR := HRn; have HX := HXn; have hB0_ := hBn
  clear HDn HRn HXn hBn
  rw [rounds_succ]
  have oD := HD.out
  have D0 := oD.at 0 _ rfl
  have D1 := oD.at 1 _ rfl
  have D2 := oD.at 2 _ rfl
  have D3 := oD.at 3 _ rfl
  have D4 := oD.at 4 _ rfl
  have D5 := oD.at 5 _ rfl
  have D6 := oD.at 6 _ rfl
  have D7 := oD.at 7 _ rfl
  have D8 := oD.at 8 _ rfl
  have D9 := oD.at 9 _ rfl
  have D10 := oD.at 10 _ rfl
  have D11 := oD.at 11 _ rfl
  have Dl := oD.lt
  clear oD
  have oR := HR.out
  have R0 := oR.at 0 _ rfl
  have Rf0 := oR.ok 0 (by simp)
  have R1 := oR.at 1 _ rfl
  have Rf1 := oR.ok 1 (by simp)
  have R2 := oR.at 2 _ rfl
  have Rf2 := oR.ok 2 (by simp)
  have R3 := oR.at 3 _ rfl
  have Rf3 := oR.ok 3 (by simp)
  have R4 := oR.at 4 _ rfl
  have Rf4 := oR.ok 4 (by simp)
  have R5 := oR.at 5 _ rfl
  have Rf5 := oR.ok 5 (by simp)
  have R6 := oR.at 6 _ rfl
  have Rf6 := oR.ok 6 (by simp)
  have R7 := oR.at 7 _ rfl
  have Rf7 := oR.ok 7 (by simp)
  have R8 := oR.at 8 _ rfl
  have Rf8 := oR.ok 8 (by simp)
  have R9 := oR.at 9 _ rfl
  have Rf9 := oR.ok 9 (by simp)
  have R10 := oR.at 10 _ rfl
  have Rf10 := oR.ok 10 (by simp)
  have R11 := oR.at 11 _ rfl
  have Rf11 := oR.ok 11 (by simp)
  have Rl := oR.lt
  clear oR
  go_wp2
  exact bodyPost_ret (v := (.agg #[.int .i64 x0, .int .i64 0, .int .i64 0, .int .i64 y0, .int .i64 4294967296, .int .i64 0, .int .i64 z0, .int .i64 0, .int .i64 4294967296, .int .i64 0, .int .i64 0, .int .i64 0])) (by simp [results, Try.results54, go_sem, R0, R1, R2, R3, R4, R5, R6, R7, R8, R9, R10, R11]) rfl ⟨rfl, by repeat (first | (with_reducible assumption) | (with_reducible refine Below.setCell ?_ (by first | assumption | (simp; omega)) _))⟩

set_option maxHeartbeats 4000000 in
theorem RAxes_2 (x0 y0 z0 x1 y1 z1 : Int) (blk off cap : Nat) (w : World) (hx : Has blk off [.int .i64 x0, .int .i64 y0, .int .i64 z0, .int .i64 x1, .int .i64 y1, .int .i64 z1] w) : Calls Try.prog 54 #[.slice (some ⟨blk, off, none⟩) 2 cap] w fun e w' => e = .returned (.agg #[.int .i64 x0, .int .i64 x1, .int .i64 0, .int .i64 y0, .int .i64 y1, .int .i64 0, .int .i64 z0, .int .i64 z1, .int .i64 4294967296, .int .i64 0, .int .i64 0, .int .i64 0]) ∧ Below w.heap.size w w' := by
  have sm := Lib.hid RSame_any
  have HX := Lib.hid hx
  clear hx
  go_enter Try.func54, Try.ntmps54
  go_upto_region 1 with fail
  obtain ⟨W0, hW⟩ : ∃ W0, W0 = (w.alloc (.cells #[.int .i64 0, .int .i64 0, .int .i64 0, .int .i64 0, .int .i64 0, .int .i64 0, .int .i64 0, .int .i64 0, .int .i64 0, .int .i64 0, .int .i64 0, .int .i64 0] 80)) := ⟨_, rfl⟩
  have hB0 : Below w.heap.size w W0 := hW ▸ (Below.al (Below.refl _ _))
  have HR : Hid (Own w.heap.size [.int .i64 0, .int .i64 0, .int .i64 0, .int .i64 0, .int .i64 0, .int .i64 0, .int .i64 0, .int .i64 0, .int .i64 0, .int .i64 0, .int .i64 0, .int .i64 0] W0) := Lib.hid (hW ▸ (Own.newAt (by simp)))
  rw [← hW]
  clear hW
  obtain ⟨R, eR⟩ : ∃ X, X = w.heap.size := ⟨_, rfl⟩
  rw [← eR] at HR ⊢
  have Rw : w.heap.size ≤ R := by omega
  clear eR
  go_wp2_with (fail)
  go_at_call 48; refine (sm.out _).mono ?_; rintro e w1 ⟨rfl, hb⟩
  replace HR := Lib.hid (HR.out.later hb)
  replace HX := Lib.hid ((HX.out.below hB0 HX.out.lt).later hb)
  have hB1 := Below.go hB0 hb
  clear hb hB0 sm
  go_upto_region 2 with fail
  obtain ⟨W1, hW⟩ : ∃ W1, W1 = (w1.alloc (.cells #[.int .i64 4294967296, .int .i64 0, .int .i64 0, .int .i64 0, .int .i64 4294967296, .int .i64 0, .int .i64 0, .int .i64 0, .int .i64 4294967296, .int .i64 0, .int .i64 0, .int .i64 0] 80)) := ⟨_, rfl⟩
  have hq : Below w1.heap.size w1 W1 := hW ▸ (Below.al (Below.refl _ _))
  have HD : Hid (Own w1.heap.size [.int .i64 4294967296, .int .i64 0, .int .i64 0, .int .i64 0, .int .i64 4294967296, .int .i64 0, .int .i64 0, .int .i64 0, .int .i64 4294967296, .int .i64 0, .int .i64 0, .int .i64 0] W1) := Lib.hid (hW ▸ (Own.newAt (by simp)))
  rw [← hW]
  clear hW
  obtain ⟨D, eD⟩ : ∃ X, X = w1.heap.size := ⟨_, rfl⟩
  rw [← eD] at HD ⊢
  have Dw : w1.heap.size ≤ D := by omega
  clear eD
  have nRD : R ≠ D := by have := HR.out.lt; omega
  have nbD : blk ≠ D := by have := HX.out.lt; omega
  replace HR := Lib.hid (HR.out.later hq)
  replace HX := Lib.hid (HX.out.later hq)
  have Dww : w.heap.size ≤ D := by have := hB1.size; omega
  have hB2 : Below w.heap.size w W1 := Below.go hB1 hq
  clear hB1 hq Dw
  have Dw := Dww
  clear Dww
  go_wp2_with (fail)
  refine wp_loop_rounds 4 ?_
  rw [rounds_succ]
  have oD := HD.out
  have D0 := oD.at 0 _ rfl
  have Df0 := oD.ok 0 (by simp)
  have D3 := oD.at 3 _ rfl
  have Df3 := oD.ok 3 (by simp)
  have D6 := oD.at 6 _ rfl
  have Df6 := oD.ok 6 (by simp)
  have Dl := oD.lt
  clear oD
  have oX := HX.out
  have k0 : W1.cell? ⟨blk, off, none⟩ = some (.int .i64 x0) := oX.at 0 _ rfl
  have k1 : W1.cell? ⟨blk, off + 1, none⟩ = some (.int .i64 y0) := oX.at 1 _ rfl
  have k2 : W1.cell? ⟨blk, off + 2, none⟩ = some (.int .i64 z0) := oX.at 2 _ rfl
  have Xl := oX.lt
  clear oX
  go_wp2_with (fail)
  clear k0 k1 k2 Xl D0 Df0 D3 Df3 D6 Df6 Dl
  rw [show (((W1.setCell ⟨D, 0, none⟩ (.int .i64 x0)).setCell ⟨D, 3, none⟩ (.int .i64 y0)).setCell ⟨D, 6, none⟩ (.int .i64 z0)) = (((W1.setCells D 0 [.int .i64 x0]).setCells D 3 [.int .i64 y0]).setCells D 6 [.int .i64 z0]) from rfl]
  have HDn : Hid (Own D [.int .i64 x0, .int .i64 0, .int .i64 0, .int .i64 y0, .int .i64 4294967296, .int .i64 0, .int .i64 z0, .int .i64 0, .int .i64 4294967296, .int .i64 0, .int .i64 0, .int .i64 0] (((W1.setCells D 0 [.int .i64 x0]).setCells D 3 [.int .i64 y0]).setCells D 6 [.int .i64 z0])) := Lib.hid (show Own D (over (over (over _ 0 [.int .i64 x0]) 3 [.int .i64 y0]) 6 [.int .i64 z0]) _ from Own.part (Own.part (Own.part HD.out (by simp)) (by simp [over])) (by simp [over]))
  have HRn : Hid (Own R [.int .i64 0, .int .i64 0, .int .i64 0, .int .i64 0, .int .i64 0, .int .i64 0, .int .i64 0, .int .i64 0, .int .i64 0, .int .i64 0, .int .i64 0, .int .i64 0] (((W1.setCells D 0 [.int .i64 x0]).setCells D 3 [.int .i64 y0]).setCells D 6 [.int .i64 z0])) := Lib.hid (((HR.out.far nRD).far nRD).far nRD)
  have HXn : Hid (Has blk off [.int .i64 x0, .int .i64 y0, .int .i64 z0, .int .i64 x1, .int .i64 y1, .int .i64 z1] (((W1.setCells D 0 [.int .i64 x0]).setCells D 3 [.int .i64 y0]).setCells D 6 [.int .i64 z0])) := Lib.hid (((HX.out.far nbD).far nbD).far nbD)
  have hBn : Below w.heap.size w (((W1.setCells D 0 [.int .i64 x0]).setCells D 3 [.int .i64 y0]).setCells D 6 [.int .i64 z0]) := Below.setCells (Below.setCells (Below.setCells hB2 Dw _ _) Dw _ _) Dw _ _
  generalize (((W1.setCells D 0 [.int .i64 x0]).setCells D 3 [.int .i64 y0]).setCells D 6 [.int .i64 z0]) = V0 at *
  clear HD HR HX hB2
  have HD := HDn; have HR := HRn; have HX := HXn; have hB0_ := hBn
  clear HDn HRn HXn hBn
  rw [rounds_succ]
  have oD := HD.out
  have D1 := oD.at 1 _ rfl
  have Df1 := oD.ok 1 (by simp)
  have D4 := oD.at 4 _ rfl
  have Df4 := oD.ok 4 (by simp)
  have D7 := oD.at 7 _ rfl
  have Df7 := oD.ok 7 (by simp)
  have Dl := oD.lt
  clear oD
  have oX := HX.out
  have k0 : V0.cell? ⟨blk, off + 3, none⟩ = some (.int .i64 x1) := oX.at 3 _ rfl
  have k1 : V0.cell? ⟨blk, off + 4, none⟩ = some (.int .i64 y1) := oX.at 4 _ rfl
  have k2 : V0.cell? ⟨blk, off + 5, none⟩ = some (.int .i64 z1) := oX.at 5 _ rfl
  have Xl := oX.lt
  clear oX
  go_wp2_with (fail)
  clear k0 k1 k2 Xl D1 Df1 D4 Df4 D7 Df7 Dl
  rw [show (((V0.setCell ⟨D, 1, none⟩ (.int .i64 x1)).setCell ⟨D, 4, none⟩ (.int .i64 y1)).setCell ⟨D, 7, none⟩ (.int .i64 z1)) = (((V0.setCells D 1 [.int .i64 x1]).setCells D 4 [.int .i64 y1]).setCells D 7 [.int .i64 z1]) from rfl]
  have HDn : Hid (Own D [.int .i64 x0, .int .i64 x1, .int .i64 0, .int .i64 y0, .int .i64 y1, .int .i64 0, .int .i64 z0, .int .i64 z1, .int .i64 4294967296, .int .i64 0, .int .i64 0, .int .i64 0] (((V0.setCells D 1 [.int .i64 x1]).setCells D 4 [.int .i64 y1]).setCells D 7 [.int .i64 z1])) := Lib.hid (show Own D (over (over (over _ 1 [.int .i64 x1]) 4 [.int .i64 y1]) 7 [.int .i64 z1]) _ from Own.part (Own.part (Own.part HD.out (by simp)) (by simp [over])) (by simp [over]))
  have HRn : Hid (Own R [.int .i64 0, .int .i64 0, .int .i64 0, .int .i64 0, .int .i64 0, .int .i64 0, .int .i64 0, .int .i64 0, .int .i64 0, .int .i64 0, .int .i64 0, .int .i64 0] (((V0.setCells D 1 [.int .i64 x1]).setCells D 4 [.int .i64 y1]).setCells D 7 [.int .i64 z1])) := Lib.hid (((HR.out.far nRD).far nRD).far nRD)
  have HXn : Hid (Has blk off [.int .i64 x0, .int .i64 y0, .int .i64 z0, .int .i64 x1, .int .i64 y1, .int .i64 z1] (((V0.setCells D 1 [.int .i64 x1]).setCells D 4 [.int .i64 y1]).setCells D 7 [.int .i64 z1])) := Lib.hid (((HX.out.far nbD).far nbD).far nbD)
  have hBn : Below w.heap.size w (((V0.setCells D 1 [.int .i64 x1]).setCells D 4 [.int .i64 y1]).setCells D 7 [.int .i64 z1]) := Below.setCells (Below.setCells (Below.setCells hB0_ Dw _ _) Dw _ _) Dw _ _
  generalize (((V0.setCells D 1 [.int .i64 x1]).setCells D 4 [.int .i64 y1]).setCells D 7 [.int .i64 z1]) = V1 at *
  clear HD HR HX hB0_
  have HD := HDn; have HR := HRn; have HX := HXn; have hB1_ := hBn
  clear HDn HRn HXn hBn
  rw [rounds_succ]
  have oD := HD.out
  have D0 := oD.at 0 _ rfl
  have D1 := oD.at 1 _ rfl
  have D2 := oD.at 2 _ rfl
  have D3 := oD.at 3 _ rfl
  have D4 := oD.at 4 _ rfl
  have D5 := oD.at 5 _ rfl
  have D6 := oD.at 6 _ rfl
  have D7 := oD.at 7 _ rfl
  have D8 := oD.at 8 _ rfl
  have D9 := oD.at 9 _ rfl
  have D10 := oD.at 10 _ rfl
  have D11 := oD.at 11 _ rfl
  have Dl := oD.lt
  clear oD
  have oR := HR.out
  have R0 := oR.at 0 _ rfl
  have Rf0 := oR.ok 0 (by simp)
  have R1 := oR.at 1 _ rfl
  have Rf1 := oR.ok 1 (by simp)
  have R2 := oR.at 2 _ rfl
  have Rf2 := oR.ok 2 (by simp)
  have R3 := oR.at 3 _ rfl
  have Rf3 := oR.ok 3 (by simp)
  have R4 := oR.at 4 _ rfl
  have Rf4 := oR.ok 4 (by simp)
  have R5 := oR.at 5 _ rfl
  have Rf5 := oR.ok 5 (by simp)
  have R6 := oR.at 6 _ rfl
  have Rf6 := oR.ok 6 (by simp)
  have R7 := oR.at 7 _ rfl
  have Rf7 := oR.ok 7 (by simp)
  have R8 := oR.at 8 _ rfl
  have Rf8 := oR.ok 8 (by simp)
  have R9 := oR.at 9 _ rfl
  have Rf9 := oR.ok 9 (by simp)
  have R10 := oR.at 10 _ rfl
  have Rf10 := oR.ok 10 (by simp)
  have R11 := oR.at 11 _ rfl
  have Rf11 := oR.ok 11 (by simp)
  have Rl := oR.lt
  clear oR
  go_wp2
  exact bodyPost_ret (v := (.agg #[.int .i64 x0, .int .i64 x1, .int .i64 0, .int .i64 y0, .int .i64 y1, .int .i64 0, .int .i64 z0, .int .i64 z1, .int .i64 4294967296, .int .i64 0, .int .i64 0, .int .i64 0])) (by simp [results, Try.results54, go_sem, R0, R1, R2, R3, R4, R5, R6, R7, R8, R9, R10, R11]) rfl ⟨rfl, by repeat (first | (with_reducible assumption) | (with_reducible refine Below.setCell ?_ (by first | assumption | (simp; omega)) _))⟩

set_option maxHeartbeats 4000000 in
theorem RAxes_3 (x0 y0 z0 x1 y1 z1 x2 y2 z2 : Int) (blk off cap : Nat) (w : World) (hx : Has blk off [.int .i64 x0, .int .i64 y0, .int .i64 z0, .int .i64 x1, .int .i64 y1, .int .i64 z1, .int .i64 x2, .int .i64 y2, .int .i64 z2] w) : Calls Try.prog 54 #[.slice (some ⟨blk, off, none⟩) 3 cap] w fun e w' => e = .returned (.agg #[.int .i64 x0, .int .i64 x1, .int .i64 x2, .int .i64 y0, .int .i64 y1, .int .i64 y2, .int .i64 z0, .int .i64 z1, .int .i64 z2, .int .i64 0, .int .i64 0, .int .i64 0]) ∧ Below w.heap.size w w' := by
  have sm := Lib.hid RSame_any
  have HX := Lib.hid hx
  clear hx
  go_enter Try.func54, Try.ntmps54
  go_upto_region 1 with fail
  obtain ⟨W0, hW⟩ : ∃ W0, W0 = (w.alloc (.cells #[.int .i64 0, .int .i64 0, .int .i64 0, .int .i64 0, .int .i64 0, .int .i64 0, .int .i64 0, .int .i64 0, .int .i64 0, .int .i64 0, .int .i64 0, .int .i64 0] 80)) := ⟨_, rfl⟩
  have hB0 : Below w.heap.size w W0 := hW ▸ (Below.al (Below.refl _ _))
  have HR : Hid (Own w.heap.size [.int .i64 0, .int .i64 0, .int .i64 0, .int .i64 0, .int .i64 0, .int .i64 0, .int .i64 0, .int .i64 0, .int .i64 0, .int .i64 0, .int .i64 0, .int .i64 0] W0) := Lib.hid (hW ▸ (Own.newAt (by simp)))
  rw [← hW]
  clear hW
  obtain ⟨R, eR⟩ : ∃ X, X = w.heap.size := ⟨_, rfl⟩
  rw [← eR] at HR ⊢
  have Rw : w.heap.size ≤ R := by omega
  clear eR
  go_wp2_with (fail)
  go_at_call 48; refine (sm.out _).mono ?_; rintro e w1 ⟨rfl, hb⟩
  replace HR := Lib.hid (HR.out.later hb)
  replace HX := Lib.hid ((HX.out.below hB0 HX.out.lt).later hb)
  have hB1 := Below.go hB0 hb
  clear hb hB0 sm
  go_upto_region 2 with fail
  obtain ⟨W1, hW⟩ : ∃ W1, W1 = (w1.alloc (.cells #[.int .i64 4294967296, .int .i64 0, .int .i64 0, .int .i64 0, .int .i64 4294967296, .int .i64 0, .int .i64 0, .int .i64 0, .int .i64 4294967296, .int .i64 0, .int .i64 0, .int .i64 0] 80)) := ⟨_, rfl⟩
  have hq : Below w1.heap.size w1 W1 := hW ▸ (Below.al (Below.refl _ _))
  have HD : Hid (Own w1.heap.size [.int .i64 4294967296, .int .i64 0, .int .i64 0, .int .i64 0, .int .i64 4294967296, .int .i64 0, .int .i64 0, .int .i64 0, .int .i64 4294967296, .int .i64 0, .int .i64 0, .int .i64 0] W1) := Lib.hid (hW ▸ (Own.newAt (by simp)))
  rw [← hW]
  clear hW
  obtain ⟨D, eD⟩ : ∃ X, X = w1.heap.size := ⟨_, rfl⟩
  rw [← eD] at HD ⊢
  have Dw : w1.heap.size ≤ D := by omega
  clear eD
  have nRD : R ≠ D := by have := HR.out.lt; omega
  have nbD : blk ≠ D := by have := HX.out.lt; omega
  replace HR := Lib.hid (HR.out.later hq)
  replace HX := Lib.hid (HX.out.later hq)
  have Dww : w.heap.size ≤ D := by have := hB1.size; omega
  have hB2 : Below w.heap.size w W1 := Below.go hB1 hq
  clear hB1 hq Dw
  have Dw := Dww
  clear Dww
  go_wp2_with (fail)
  refine wp_loop_rounds 4 ?_
  rw [rounds_succ]
  have oD := HD.out
  have D0 := oD.at 0 _ rfl
  have Df0 := oD.ok 0 (by simp)
  have D3 := oD.at 3 _ rfl
  have Df3 := oD.ok 3 (by simp)
  have D6 := oD.at 6 _ rfl
  have Df6 := oD.ok 6 (by simp)
  have Dl := oD.lt
  clear oD
  have oX := HX.out
  have k0 : W1.cell? ⟨blk, off, none⟩ = some (.int .i64 x0) := oX.at 0 _ rfl
  have k1 : W1.cell? ⟨blk, off + 1, none⟩ = some (.int .i64 y0) := oX.at 1 _ rfl
  have k2 : W1.cell? ⟨blk, off + 2, none⟩ = some (.int .i64 z0) := oX.at 2 _ rfl
  have Xl := oX.lt
  clear oX
  go_wp2_with (fail)
  clear k0 k1 k2 Xl D0 Df0 D3 Df3 D6 Df6 Dl
  rw [show (((W1.setCell ⟨D, 0, none⟩ (.int .i64 x0)).setCell ⟨D, 3, none⟩ (.int .i64 y0)).setCell ⟨D, 6, none⟩ (.int .i64 z0)) = (((W1.setCells D 0 [.int .i64 x0]).setCells D 3 [.int .i64 y0]).setCells D 6 [.int .i64 z0]) from rfl]
  have HDn : Hid (Own D [.int .i64 x0, .int .i64 0, .int .i64 0, .int .i64 y0, .int .i64 4294967296, .int .i64 0, .int .i64 z0, .int .i64 0, .int .i64 4294967296, .int .i64 0, .int .i64 0, .int .i64 0] (((W1.setCells D 0 [.int .i64 x0]).setCells D 3 [.int .i64 y0]).setCells D 6 [.int .i64 z0])) := Lib.hid (show Own D (over (over (over _ 0 [.int .i64 x0]) 3 [.int .i64 y0]) 6 [.int .i64 z0]) _ from Own.part (Own.part (Own.part HD.out (by simp)) (by simp [over])) (by simp [over]))
  have HRn : Hid (Own R [.int .i64 0, .int .i64 0, .int .i64 0, .int .i64 0, .int .i64 0, .int .i64 0, .int .i64 0, .int .i64 0, .int .i64 0, .int .i64 0, .int .i64 0, .int .i64 0] (((W1.setCells D 0 [.int .i64 x0]).setCells D 3 [.int .i64 y0]).setCells D 6 [.int .i64 z0])) := Lib.hid (((HR.out.far nRD).far nRD).far nRD)
  have HXn : Hid (Has blk off [.int .i64 x0, .int .i64 y0, .int .i64 z0, .int .i64 x1, .int .i64 y1, .int .i64 z1, .int .i64 x2, .int .i64 y2, .int .i64 z2] (((W1.setCells D 0 [.int .i64 x0]).setCells D 3 [.int .i64 y0]).setCells D 6 [.int .i64 z0])) := Lib.hid (((HX.out.far nbD).far nbD).far nbD)
  have hBn : Below w.heap.size w (((W1.setCells D 0 [.int .i64 x0]).setCells D 3 [.int .i64 y0]).setCells D 6 [.int .i64 z0]) := Below.setCells (Below.setCells (Below.setCells hB2 Dw _ _) Dw _ _) Dw _ _
  generalize (((W1.setCells D 0 [.int .i64 x0]).setCells D 3 [.int .i64 y0]).setCells D 6 [.int .i64 z0]) = V0 at *
  clear HD HR HX hB2
  have HD := HDn; have HR := HRn; have HX := HXn; have hB0_ := hBn
  clear HDn HRn HXn hBn
  rw [rounds_succ]
  have oD := HD.out
  have D1 := oD.at 1 _ rfl
  have Df1 := oD.ok 1 (by simp)
  have D4 := oD.at 4 _ rfl
  have Df4 := oD.ok 4 (by simp)
  have D7 := oD.at 7 _ rfl
  have Df7 := oD.ok 7 (by simp)
  have Dl := oD.lt
  clear oD
  have oX := HX.out
  have k0 : V0.cell? ⟨blk, off + 3, none⟩ = some (.int .i64 x1) := oX.at 3 _ rfl
  have k1 : V0.cell? ⟨blk, off + 4, none⟩ = some (.int .i64 y1) := oX.at 4 _ rfl
  have k2 : V0.cell? ⟨blk, off + 5, none⟩ = some (.int .i64 z1) := oX.at 5 _ rfl
  have Xl := oX.lt
  clear oX
  go_wp2_with (fail)
  clear k0 k1 k2 Xl D1 Df1 D4 Df4 D7 Df7 Dl
  rw [show (((V0.setCell ⟨D, 1, none⟩ (.int .i64 x1)).setCell ⟨D, 4, none⟩ (.int .i64 y1)).setCell ⟨D, 7, none⟩ (.int .i64 z1)) = (((V0.setCells D 1 [.int .i64 x1]).setCells D 4 [.int .i64 y1]).setCells D 7 [.int .i64 z1]) from rfl]
  have HDn : Hid (Own D [.int .i64 x0, .int .i64 x1, .int .i64 0, .int .i64 y0, .int .i64 y1, .int .i64 0, .int .i64 z0, .int .i64 z1, .int .i64 4294967296, .int .i64 0, .int .i64 0, .int .i64 0] (((V0.setCells D 1 [.int .i64 x1]).setCells D 4 [.int .i64 y1]).setCells D 7 [.int .i64 z1])) := Lib.hid (show Own D (over (over (over _ 1 [.int .i64 x1]) 4 [.int .i64 y1]) 7 [.int .i64 z1]) _ from Own.part (Own.part (Own.part HD.out (by simp)) (by simp [over])) (by simp [over]))
  have HRn : Hid (Own R [.int .i64 0, .int .i64 0, .int .i64 0, .int .i64 0, .int .i64 0, .int .i64 0, .int .i64 0, .int .i64 0, .int .i64 0, .int .i64 0, .int .i64 0, .int .i64 0] (((V0.setCells D 1 [.int .i64 x1]).setCells D 4 [.int .i64 y1]).setCells D 7 [.int .i64 z1])) := Lib.hid (((HR.out.far nRD).far nRD).far nRD)
  have HXn : Hid (Has blk off [.int .i64 x0, .int .i64 y0, .int .i64 z0, .int .i64 x1, .int .i64 y1, .int .i64 z1, .int .i64 x2, .int .i64 y2, .int .i64 z2] (((V0.setCells D 1 [.int .i64 x1]).setCells D 4 [.int .i64 y1]).setCells D 7 [.int .i64 z1])) := Lib.hid (((HX.out.far nbD).far nbD).far nbD)
  have hBn : Below w.heap.size w (((V0.setCells D 1 [.int .i64 x1]).setCells D 4 [.int .i64 y1]).setCells D 7 [.int .i64 z1]) := Below.setCells (Below.setCells (Below.setCells hB0_ Dw _ _) Dw _ _) Dw _ _
  generalize (((V0.setCells D 1 [.int .i64 x1]).setCells D 4 [.int .i64 y1]).setCells D 7 [.int .i64 z1]) = V1 at *
  clear HD HR HX hB0_
  have HD := HDn; have HR := HRn; have HX := HXn; have hB1_ := hBn
  clear HDn HRn HXn hBn
  rw [rounds_succ]
  have oD := HD.out
  have D2 := oD.at 2 _ rfl
  have Df2 := oD.ok 2 (by simp)
  have D5 := oD.at 5 _ rfl
  have Df5 := oD.ok 5 (by simp)
  have D8 := oD.at 8 _ rfl
  have Df8 := oD.ok 8 (by simp)
  have Dl := oD.lt
  clear oD
  have oX := HX.out
  have k0 : V1.cell? ⟨blk, off + 6, none⟩ = some (.int .i64 x2) := oX.at 6 _ rfl
  have k1 : V1.cell? ⟨blk, off + 7, none⟩ = some (.int .i64 y2) := oX.at 7 _ rfl
  have k2 : V1.cell? ⟨blk, off + 8, none⟩ = some (.int .i64 z2) := oX.at 8 _ rfl
  have Xl := oX.lt
  clear oX
  go_wp2_with (fail)
  clear k0 k1 k2 Xl D2 Df2 D5 Df5 D8 Df8 Dl
  rw [show (((V1.setCell ⟨D, 2, none⟩ (.int .i64 x2)).setCell ⟨D, 5, none⟩ (.int .i64 y2)).setCell ⟨D, 8, none⟩ (.int .i64 z2)) = (((V1.setCells D 2 [.int .i64 x2]).setCells D 5 [.int .i64 y2]).setCells D 8 [.int .i64 z2]) from rfl]
  have HDn : Hid (Own D [.int .i64 x0, .int .i64 x1, .int .i64 x2, .int .i64 y0, .int .i64 y1, .int .i64 y2, .int .i64 z0, .int .i64 z1, .int .i64 z2, .int .i64 0, .int .i64 0, .int .i64 0] (((V1.setCells D 2 [.int .i64 x2]).setCells D 5 [.int .i64 y2]).setCells D 8 [.int .i64 z2])) := Lib.hid (show Own D (over (over (over _ 2 [.int .i64 x2]) 5 [.int .i64 y2]) 8 [.int .i64 z2]) _ from Own.part (Own.part (Own.part HD.out (by simp)) (by simp [over])) (by simp [over]))
  have HRn : Hid (Own R [.int .i64 0, .int .i64 0, .int .i64 0, .int .i64 0, .int .i64 0, .int .i64 0, .int .i64 0, .int .i64 0, .int .i64 0, .int .i64 0, .int .i64 0, .int .i64 0] (((V1.setCells D 2 [.int .i64 x2]).setCells D 5 [.int .i64 y2]).setCells D 8 [.int .i64 z2])) := Lib.hid (((HR.out.far nRD).far nRD).far nRD)
  have HXn : Hid (Has blk off [.int .i64 x0, .int .i64 y0, .int .i64 z0, .int .i64 x1, .int .i64 y1, .int .i64 z1, .int .i64 x2, .int .i64 y2, .int .i64 z2] (((V1.setCells D 2 [.int .i64 x2]).setCells D 5 [.int .i64 y2]).setCells D 8 [.int .i64 z2])) := Lib.hid (((HX.out.far nbD).far nbD).far nbD)
  have hBn : Below w.heap.size w (((V1.setCells D 2 [.int .i64 x2]).setCells D 5 [.int .i64 y2]).setCells D 8 [.int .i64 z2]) := Below.setCells (Below.setCells (Below.setCells hB1_ Dw _ _) Dw _ _) Dw _ _
  generalize (((V1.setCells D 2 [.int .i64 x2]).setCells D 5 [.int .i64 y2]).setCells D 8 [.int .i64 z2]) = V2 at *
  clear HD HR HX hB1_
  have HD := HDn; have HR := HRn; have HX := HXn; have hB2_ := hBn
  clear HDn HRn HXn hBn
  rw [rounds_succ]
  have oD := HD.out
  have D0 := oD.at 0 _ rfl
  have D1 := oD.at 1 _ rfl
  have D2 := oD.at 2 _ rfl
  have D3 := oD.at 3 _ rfl
  have D4 := oD.at 4 _ rfl
  have D5 := oD.at 5 _ rfl
  have D6 := oD.at 6 _ rfl
  have D7 := oD.at 7 _ rfl
  have D8 := oD.at 8 _ rfl
  have D9 := oD.at 9 _ rfl
  have D10 := oD.at 10 _ rfl
  have D11 := oD.at 11 _ rfl
  have Dl := oD.lt
  clear oD
  have oR := HR.out
  have R0 := oR.at 0 _ rfl
  have Rf0 := oR.ok 0 (by simp)
  have R1 := oR.at 1 _ rfl
  have Rf1 := oR.ok 1 (by simp)
  have R2 := oR.at 2 _ rfl
  have Rf2 := oR.ok 2 (by simp)
  have R3 := oR.at 3 _ rfl
  have Rf3 := oR.ok 3 (by simp)
  have R4 := oR.at 4 _ rfl
  have Rf4 := oR.ok 4 (by simp)
  have R5 := oR.at 5 _ rfl
  have Rf5 := oR.ok 5 (by simp)
  have R6 := oR.at 6 _ rfl
  have Rf6 := oR.ok 6 (by simp)
  have R7 := oR.at 7 _ rfl
  have Rf7 := oR.ok 7 (by simp)
  have R8 := oR.at 8 _ rfl
  have Rf8 := oR.ok 8 (by simp)
  have R9 := oR.at 9 _ rfl
  have Rf9 := oR.ok 9 (by simp)
  have R10 := oR.at 10 _ rfl
  have Rf10 := oR.ok 10 (by simp)
  have R11 := oR.at 11 _ rfl
  have Rf11 := oR.ok 11 (by simp)
  have Rl := oR.lt
  clear oR
  go_wp2
  exact bodyPost_ret (v := (.agg #[.int .i64 x0, .int .i64 x1, .int .i64 x2, .int .i64 y0, .int .i64 y1, .int .i64 y2, .int .i64 z0, .int .i64 z1, .int .i64 z2, .int .i64 0, .int .i64 0, .int .i64 0])) (by simp [results, Try.results54, go_sem, R0, R1, R2, R3, R4, R5, R6, R7, R8, R9, R10, R11]) rfl ⟨rfl, by repeat (first | (with_reducible assumption) | (with_reducible refine Below.setCell ?_ (by first | assumption | (simp; omega)) _))⟩

set_option maxHeartbeats 4000000 in
theorem RAxes_4 (x0 y0 z0 x1 y1 z1 x2 y2 z2 x3 y3 z3 : Int) (blk off n cap : Nat) (hn : 4 ≤ n) (w : World) (hx : Has blk off [.int .i64 x0, .int .i64 y0, .int .i64 z0, .int .i64 x1, .int .i64 y1, .int .i64 z1, .int .i64 x2, .int .i64 y2, .int .i64 z2, .int .i64 x3, .int .i64 y3, .int .i64 z3] w) : Calls Try.prog 54 #[.slice (some ⟨blk, off, none⟩) n cap] w fun e w' => e = .returned (.agg #[.int .i64 x0, .int .i64 x1, .int .i64 x2, .int .i64 y0, .int .i64 y1, .int .i64 y2, .int .i64 z0, .int .i64 z1, .int .i64 z2, .int .i64 x3, .int .i64 y3, .int .i64 z3]) ∧ Below w.heap.size w w' := by
  have sm := Lib.hid RSame_any
  have HX := Lib.hid hx
  clear hx
  go_enter Try.func54, Try.ntmps54
  go_upto_region 1 with fail
  obtain ⟨W0, hW⟩ : ∃ W0, W0 = (w.alloc (.cells #[.int .i64 0, .int .i64 0, .int .i64 0, .int .i64 0, .int .i64 0, .int .i64 0, .int .i64 0, .int .i64 0, .int .i64 0, .int .i64 0, .int .i64 0, .int .i64 0] 80)) := ⟨_, rfl⟩
  have hB0 : Below w.heap.size w W0 := hW ▸ (Below.al (Below.refl _ _))
  have HR : Hid (Own w.heap.size [.int .i64 0, .int .i64 0, .int .i64 0, .int .i64 0, .int .i64 0, .int .i64 0, .int .i64 0, .int .i64 0, .int .i64 0, .int .i64 0, .int .i64 0, .int .i64 0] W0) := Lib.hid (hW ▸ (Own.newAt (by simp)))
  rw [← hW]
  clear hW
  obtain ⟨R, eR⟩ : ∃ X, X = w.heap.size := ⟨_, rfl⟩
  rw [← eR] at HR ⊢
  have Rw : w.heap.size ≤ R := by omega
  clear eR
  go_wp2_with (fail)
  go_at_call 48; refine (sm.out _).mono ?_; rintro e w1 ⟨rfl, hb⟩
  replace HR := Lib.hid (HR.out.later hb)
  replace HX := Lib.hid ((HX.out.below hB0 HX.out.lt).later hb)
  have hB1 := Below.go hB0 hb
  clear hb hB0 sm
  go_upto_region 2 with fail
  obtain ⟨W1, hW⟩ : ∃ W1, W1 = (w1.alloc (.cells #[.int .i64 4294967296, .int .i64 0, .int .i64 0, .int .i64 0, .int .i64 4294967296, .int .i64 0, .int .i64 0, .int .i64 0, .int .i64 4294967296, .int .i64 0, .int .i64 0, .int .i64 0] 80)) := ⟨_, rfl⟩
  have hq : Below w1.heap.size w1 W1 := hW ▸ (Below.al (Below.refl _ _))
  have HD : Hid (Own w1.heap.size [.int .i64 4294967296, .int .i64 0, .int .i64 0, .int .i64 0, .int .i64 4294967296, .int .i64 0, .int .i64 0, .int .i64 0, .int .i64 4294967296, .int .i64 0, .int .i64 0, .int .i64 0] W1) := Lib.hid (hW ▸ (Own.newAt (by simp)))
  rw [← hW]
  clear hW
  obtain ⟨D, eD⟩ : ∃ X, X = w1.heap.size := ⟨_, rfl⟩
  rw [← eD] at HD ⊢
  have Dw : w1.heap.size ≤ D := by omega
  clear eD
  have nRD : R ≠ D := by have := HR.out.lt; omega
  have nbD : blk ≠ D := by have := HX.out.lt; omega
  replace HR := Lib.hid (HR.out.later hq)
  replace HX := Lib.hid (HX.out.later hq)
  have Dww : w.heap.size ≤ D := by have := hB1.size; omega
  have hB2 : Below w.heap.size w W1 := Below.go hB1 hq
  clear hB1 hq Dw
  have Dw := Dww
  clear Dww
  go_wp2_with (fail)
  refine wp_loop_rounds 4 ?_
  rw [rounds_succ]
  have oD := HD.out
  have D0 := oD.at 0 _ rfl
  have Df0 := oD.ok 0 (by simp)
  have D3 := oD.at 3 _ rfl
  have Df3 := oD.ok 3 (by simp)
  have D6 := oD.at 6 _ rfl
  have Df6 := oD.ok 6 (by simp)
  have Dl := oD.lt
  clear oD
  have oX := HX.out
  have k0 : W1.cell? ⟨blk, off, none⟩ = some (.int .i64 x0) := oX.at 0 _ rfl
  have k1 : W1.cell? ⟨blk, off + 1, none⟩ = some (.int .i64 y0) := oX.at 1 _ rfl
  have k2 : W1.cell? ⟨blk, off + 2, none⟩ = some (.int .i64 z0) := oX.at 2 _ rfl
  have Xl := oX.lt
  clear oX
  go_wp2_with (fail)
  clear k0 k1 k2 Xl D0 Df0 D3 Df3 D6 Df6 Dl
  rw [show (((W1.setCell ⟨D, 0, none⟩ (.int .i64 x0)).setCell ⟨D, 3, none⟩ (.int .i64 y0)).setCell ⟨D, 6, none⟩ (.int .i64 z0)) = (((W1.setCells D 0 [.int .i64 x0]).setCells D 3 [.int .i64 y0]).setCells D 6 [.int .i64 z0]) from rfl]
  have HDn : Hid (Own D [.int .i64 x0, .int .i64 0, .int .i64 0, .int .i64 y0, .int .i64 4294967296, .int .i64 0, .int .i64 z0, .int .i64 0, .int .i64 4294967296, .int .i64 0, .int .i64 0, .int .i64 0] (((W1.setCells D 0 [.int .i64 x0]).setCells D 3 [.int .i64 y0]).setCells D 6 [.int .i64 z0])) := Lib.hid (show Own D (over (over (over _ 0 [.int .i64 x0]) 3 [.int .i64 y0]) 6 [.int .i64 z0]) _ from Own.part (Own.part (Own.part HD.out (by simp)) (by simp [over])) (by simp [over]))
  have HRn : Hid (Own R [.int .i64 0, .int .i64 0, .int .i64 0, .int .i64 0, .int .i64 0, .int .i64 0, .int .i64 0, .int .i64 0, .int .i64 0, .int .i64 0, .int .i64 0, .int .i64 0] (((W1.setCells D 0 [.int .i64 x0]).setCells D 3 [.int .i64 y0]).setCells D 6 [.int .i64 z0])) := Lib.hid (((HR.out.far nRD).far nRD).far nRD)
  have HXn : Hid (Has blk off [.int .i64 x0, .int .i64 y0, .int .i64 z0, .int .i64 x1, .int .i64 y1, .int .i64 z1, .int .i64 x2, .int .i64 y2, .int .i64 z2, .int .i64 x3, .int .i64 y3, .int .i64 z3] (((W1.setCells D 0 [.int .i64 x0]).setCells D 3 [.int .i64 y0]).setCells D 6 [.int .i64 z0])) := Lib.hid (((HX.out.far nbD).far nbD).far nbD)
  have hBn : Below w.heap.size w (((W1.setCells D 0 [.int .i64 x0]).setCells D 3 [.int .i64 y0]).setCells D 6 [.int .i64 z0]) := Below.setCells (Below.setCells (Below.setCells hB2 Dw _ _) Dw _ _) Dw _ _
  generalize (((W1.setCells D 0 [.int .i64 x0]).setCells D 3 [.int .i64 y0]).setCells D 6 [.int .i64 z0]) = V0 at *
  clear HD HR HX hB2
  have HD := HDn; have HR := HRn; have HX := HXn; have hB0_ := hBn
  clear HDn HRn HXn hBn
  rw [rounds_succ]
  have oD := HD.out
  have D1 := oD.at 1 _ rfl
  have Df1 := oD.ok 1 (by simp)
  have D4 := oD.at 4 _ rfl
  have Df4 := oD.ok 4 (by simp)
  have D7 := oD.at 7 _ rfl
  have Df7 := oD.ok 7 (by simp)
  have Dl := oD.lt
  clear oD
  have oX := HX.out
  have k0 : V0.cell? ⟨blk, off + 3, none⟩ = some (.int .i64 x1) := oX.at 3 _ rfl
  have k1 : V0.cell? ⟨blk, off + 4, none⟩ = some (.int .i64 y1) := oX.at 4 _ rfl
  have k2 : V0.cell? ⟨blk, off + 5, none⟩ = some (.int .i64 z1) := oX.at 5 _ rfl
  have Xl := oX.lt
  clear oX
  go_wp2_with (fail)
  clear k0 k1 k2 Xl D1 Df1 D4 Df4 D7 Df7 Dl
  rw [show (((V0.setCell ⟨D, 1, none⟩ (.int .i64 x1)).setCell ⟨D, 4, none⟩ (.int .i64 y1)).setCell ⟨D, 7, none⟩ (.int .i64 z1)) = (((V0.setCells D 1 [.int .i64 x1]).setCells D 4 [.int .i64 y1]).setCells D 7 [.int .i64 z1]) from rfl]
  have HDn : Hid (Own D [.int .i64 x0, .int .i64 x1, .int .i64 0, .int .i64 y0, .int .i64 y1, .int .i64 0, .int .i64 z0, .int .i64 z1, .int .i64 4294967296, .int .i64 0, .int .i64 0, .int .i64 0] (((V0.setCells D 1 [.int .i64 x1]).setCells D 4 [.int .i64 y1]).setCells D 7 [.int .i64 z1])) := Lib.hid (show Own D (over (over (over _ 1 [.int .i64 x1]) 4 [.int .i64 y1]) 7 [.int .i64 z1]) _ from Own.part (Own.part (Own.part HD.out (by simp)) (by simp [over])) (by simp [over]))
  have HRn : Hid (Own R [.int .i64 0, .int .i64 0, .int .i64 0, .int .i64 0, .int .i64 0, .int .i64 0, .int .i64 0, .int .i64 0, .int .i64 0, .int .i64 0, .int .i64 0, .int .i64 0] (((V0.setCells D 1 [.int .i64 x1]).setCells D 4 [.int .i64 y1]).setCells D 7 [.int .i64 z1])) := Lib.hid (((HR.out.far nRD).far nRD).far nRD)
  have HXn : Hid (Has blk off [.int .i64 x0, .int .i64 y0, .int .i64 z0, .int .i64 x1, .int .i64 y1, .int .i64 z1, .int .i64 x2, .int .i64 y2, .int .i64 z2, .int .i64 x3, .int .i64 y3, .int .i64 z3] (((V0.setCells D 1 [.int .i64 x1]).setCells D 4 [.int .i64 y1]).setCells D 7 [.int .i64 z1])) := Lib.hid (((HX.out.far nbD).far nbD).far nbD)
  have hBn : Below w.heap.size w (((V0.setCells D 1 [.int .i64 x1]).setCells D 4 [.int .i64 y1]).setCells D 7 [.int .i64 z1]) := Below.setCells (Below.setCells (Below.setCells hB0_ Dw _ _) Dw _ _) Dw _ _
  generalize (((V0.setCells D 1 [.int .i64 x1]).setCells D 4 [.int .i64 y1]).setCells D 7 [.int .i64 z1]) = V1 at *
  clear HD HR HX hB0_
  have HD := HDn; have HR := HRn; have HX := HXn; have hB1_ := hBn
  clear HDn HRn HXn hBn
  rw [rounds_succ]
  have oD := HD.out
  have D2 := oD.at 2 _ rfl
  have Df2 := oD.ok 2 (by simp)
  have D5 := oD.at 5 _ rfl
  have Df5 := oD.ok 5 (by simp)
  have D8 := oD.at 8 _ rfl
  have Df8 := oD.ok 8 (by simp)
  have Dl := oD.lt
  clear oD
  have oX := HX.out
  have k0 : V1.cell? ⟨blk, off + 6, none⟩ = some (.int .i64 x2) := oX.at 6 _ rfl
  have k1 : V1.cell? ⟨blk, off + 7, none⟩ = some (.int .i64 y2) := oX.at 7 _ rfl
  have k2 : V1.cell? ⟨blk, off + 8, none⟩ = some (.int .i64 z2) := oX.at 8 _ rfl
  have Xl := oX.lt
  clear oX
  go_wp2_with (fail)
  clear k0 k1 k2 Xl D2 Df2 D5 Df5 D8 Df8 Dl
  rw [show (((V1.setCell ⟨D, 2, none⟩ (.int .i64 x2)).setCell ⟨D, 5, none⟩ (.int .i64 y2)).setCell ⟨D, 8, none⟩ (.int .i64 z2)) = (((V1.setCells D 2 [.int .i64 x2]).setCells D 5 [.int .i64 y2]).setCells D 8 [.int .i64 z2]) from rfl]
  have HDn : Hid (Own D [.int .i64 x0, .int .i64 x1, .int .i64 x2, .int .i64 y0, .int .i64 y1, .int .i64 y2, .int .i64 z0, .int .i64 z1, .int .i64 z2, .int .i64 0, .int .i64 0, .int .i64 0] (((V1.setCells D 2 [.int .i64 x2]).setCells D 5 [.int .i64 y2]).setCells D 8 [.int .i64 z2])) := Lib.hid (show Own D (over (over (over _ 2 [.int .i64 x2]) 5 [.int .i64 y2]) 8 [.int .i64 z2]) _ from Own.part (Own.part (Own.part HD.out (by simp)) (by simp [over])) (by simp [over]))
  have HRn : Hid (Own R [.int .i64 0, .int .i64 0, .int .i64 0, .int .i64 0, .int .i64 0, .int .i64 0, .int .i64 0, .int .i64 0, .int .i64 0, .int .i64 0, .int .i64 0, .int .i64 0] (((V1.setCells D 2 [.int .i64 x2]).setCells D 5 [.int .i64 y2]).setCells D 8 [.int .i64 z2])) := Lib.hid (((HR.out.far nRD).far nRD).far nRD)
  have HXn : Hid (Has blk off [.int .i64 x0, .int .i64 y0, .int .i64 z0, .int .i64 x1, .int .i64 y1, .int .i64 z1, .int .i64 x2, .int .i64 y2, .int .i64 z2, .int .i64 x3, .int .i64 y3, .int .i64 z3] (((V1.setCells D 2 [.int .i64 x2]).setCells D 5 [.int .i64 y2]).setCells D 8 [.int .i64 z2])) := Lib.hid (((HX.out.far nbD).far nbD).far nbD)
  have hBn : Below w.heap.size w (((V1.setCells D 2 [.int .i64 x2]).setCells D 5 [.int .i64 y2]).setCells D 8 [.int .i64 z2]) := Below.setCells (Below.setCells (Below.setCells hB1_ Dw _ _) Dw _ _) Dw _ _
  generalize (((V1.setCells D 2 [.int .i64 x2]).setCells D 5 [.int .i64 y2]).setCells D 8 [.int .i64 z2]) = V2 at *
  clear HD HR HX hB1_
  have HD := HDn; have HR := HRn; have HX := HXn; have hB2_ := hBn
  clear HDn HRn HXn hBn
  rw [rounds_succ]
  have oD := HD.out
  have D9 := oD.at 9 _ rfl
  have Df9 := oD.ok 9 (by simp)
  have D10 := oD.at 10 _ rfl
  have Df10 := oD.ok 10 (by simp)
  have D11 := oD.at 11 _ rfl
  have Df11 := oD.ok 11 (by simp)
  have Dl := oD.lt
  clear oD
  have oX := HX.out
  have k0 : V2.cell? ⟨blk, off + 9, none⟩ = some (.int .i64 x3) := oX.at 9 _ rfl
  have k1 : V2.cell? ⟨blk, off + 10, none⟩ = some (.int .i64 y3) := oX.at 10 _ rfl
  have k2 : V2.cell? ⟨blk, off + 11, none⟩ = some (.int .i64 z3) := oX.at 11 _ rfl
  have Xl := oX.lt
  clear oX
  go_upto_region 10 with fail
  clear k0 k1 k2 Xl D9 D10 D11 Df9 Df10 Df11 Dl
  rw [show (((V2.setCell ⟨D, 9, none⟩ (.int .i64 x3)).setCell ⟨D, 10, none⟩ (.int .i64 y3)).setCell ⟨D, 11, none⟩ (.int .i64 z3)) = V2.setCells D 9 [.int .i64 x3, .int .i64 y3, .int .i64 z3] from rfl]
  have HDn : Hid (Own D [.int .i64 x0, .int .i64 x1, .int .i64 x2, .int .i64 y0, .int .i64 y1, .int .i64 y2, .int .i64 z0, .int .i64 z1, .int .i64 z2, .int .i64 x3, .int .i64 y3, .int .i64 z3] (V2.setCells D 9 [.int .i64 x3, .int .i64 y3, .int .i64 z3])) := Lib.hid (show Own D (over _ 9 [.int .i64 x3, .int .i64 y3, .int .i64 z3]) _ from Own.part HD.out (by simp))
  have HRn : Hid (Own R [.int .i64 0, .int .i64 0, .int .i64 0, .int .i64 0, .int .i64 0, .int .i64 0, .int .i64 0, .int .i64 0, .int .i64 0, .int .i64 0, .int .i64 0, .int .i64 0] (V2.setCells D 9 [.int .i64 x3, .int .i64 y3, .int .i64 z3])) := Lib.hid (HR.out.far nRD)
  have hBn : Below w.heap.size w (V2.setCells D 9 [.int .i64 x3, .int .i64 y3, .int .i64 z3]) := Below.setCells hB2_ Dw _ _
  generalize (V2.setCells D 9 [.int .i64 x3, .int .i64 y3, .int .i64 z3]) = V4 at *
  clear HD HR HX hB2_
  have HD := HDn; have HR := HRn; have hB4_ := hBn
  clear HDn HRn hBn
  have oD := HD.out
  have D0 := oD.at 0 _ rfl
  have D1 := oD.at 1 _ rfl
  have D2 := oD.at 2 _ rfl
  have D3 := oD.at 3 _ rfl
  have D4 := oD.at 4 _ rfl
  have D5 := oD.at 5 _ rfl
  have D6 := oD.at 6 _ rfl
  have D7 := oD.at 7 _ rfl
  have D8 := oD.at 8 _ rfl
  have D9 := oD.at 9 _ rfl
  have D10 := oD.at 10 _ rfl
  have D11 := oD.at 11 _ rfl
  have Dl := oD.lt
  clear oD
  have oR := HR.out
  have R0 := oR.at 0 _ rfl
  have Rf0 := oR.ok 0 (by simp)
  have R1 := oR.at 1 _ rfl
  have Rf1 := oR.ok 1 (by simp)
  have R2 := oR.at 2 _ rfl
  have Rf2 := oR.ok 2 (by simp)
  have R3 := oR.at 3 _ rfl
  have Rf3 := oR.ok 3 (by simp)
  have R4 := oR.at 4 _ rfl
  have Rf4 := oR.ok 4 (by simp)
  have R5 := oR.at 5 _ rfl
  have Rf5 := oR.ok 5 (by simp)
  have R6 := oR.at 6 _ rfl
  have Rf6 := oR.ok 6 (by simp)
  have R7 := oR.at 7 _ rfl
  have Rf7 := oR.ok 7 (by simp)
  have R8 := oR.at 8 _ rfl
  have Rf8 := oR.ok 8 (by simp)
  have R9 := oR.at 9 _ rfl
  have Rf9 := oR.ok 9 (by simp)
  have R10 := oR.at 10 _ rfl
  have Rf10 := oR.ok 10 (by simp)
  have R11 := oR.at 11 _ rfl
  have Rf11 := oR.ok 11 (by simp)
  have Rl := oR.lt
  clear oR
  go_wp2
  exact bodyPost_ret (v := (.agg #[.int .i64 x0, .int .i64 x1, .int .i64 x2, .int .i64 y0, .int .i64 y1, .int .i64 y2, .int .i64 z0, .int .i64 z1, .int .i64 z2, .int .i64 x3, .int .i64 y3, .int .i64 z3])) (by simp [results, Try.results54, go_sem, R0, R1, R2, R3, R4, R5, R6, R7, R8, R9, R10, R11]) rfl ⟨rfl, by repeat (first | (with_reducible assumption) | (with_reducible refine Below.setCell ?_ (by first | assumption | (simp; omega)) _))⟩
end Go.Proofs.Ytgggngcgcpmkbaa

/- BB -/
namespace Go.Proofs.Ytgggngcgcpmkbaa
set_option linter.unusedVariables false
set_option maxRecDepth 2000
set_option linter.unusedSimpArgs false
open Go.RowKit
attribute [local go_sem] setCell_twice setCell_pair

set_option maxHeartbeats 4000000 in
theorem RSize_0 (p : Option Addr) (cap : Nat) (w : World) : Calls Try.prog 52 #[.slice p 0 cap] w fun e w' => e = .returned (.agg #[.int .i64 4294967296, .int .i64 0, .int .i64 0, .int .i64 0, .int .i64 4294967296, .int .i64 0, .int .i64 0, .int .i64 0, .int .i64 4294967296, .int .i64 0, .int .i64 0, .int .i64 0]) ∧ Below w.heap.size w w' := by
  have sm := Lib.hid RSame_any
  go_enter Try.func52, Try.ntmps52
  go_upto_region 1 with fail
  obtain ⟨W0, hW⟩ : ∃ W0, W0 = (w.alloc (.cells #[.int .i64 0, .int .i64 0, .int .i64 0, .int .i64 0, .int .i64 0, .int .i64 0, .int .i64 0, .int .i64 0, .int .i64 0, .int .i64 0, .int .i64 0, .int .i64 0] 80)) := ⟨_, rfl⟩
  have hB0 : Below w.heap.size w W0 := hW ▸ (Below.al (Below.refl _ _))
  have HR : Hid (Own w.heap.size [.int .i64 0, .int .i64 0, .int .i64 0, .int .i64 0, .int .i64 0, .int .i64 0, .int .i64 0, .int .i64 0, .int .i64 0, .int .i64 0, .int .i64 0, .int .i64 0] W0) := Lib.hid (hW ▸ (Own.newAt (by simp)))
  rw [← hW]
  clear hW
  obtain ⟨R, eR⟩ : ∃ X, X = w.heap.size := ⟨_, rfl⟩
  rw [← eR] at HR ⊢
  have Rw : w.heap.size ≤ R := by omega
  clear eR
  go_wp2_with (fail)
  go_at_call 48; refine (sm.out _).mono ?_; rintro e w1 ⟨rfl, hb⟩
  replace HR := Lib.hid (HR.out.later hb)
  have hB1 := Below.go hB0 hb
  clear hb hB0 sm
  go_upto_region 2 with fail
  obtain ⟨W1, hW⟩ : ∃ W1, W1 = (w1.alloc (.cells #[.int .i64 4294967296, .int .i64 0, .int .i64 0, .int .i64 0, .int .i64 4294967296, .int .i64 0, .int .i64 0, .int .i64 0, .int .i64 4294967296, .int .i64 0, .int .i64 0, .int .i64 0] 80)) := ⟨_, rfl⟩
  have hq : Below w1.heap.size w1 W1 := hW ▸ (Below.al (Below.refl _ _))
  have HD : Hid (Own w1.heap.size [.int .i64 4294967296, .int .i64 0, .int .i64 0, .int .i64 0, .int .i64 4294967296, .int .i64 0, .int .i64 0, .int .i64 0, .int .i64 4294967296, .int .i64 0, .int .i64 0, .int .i64 0] W1) := Lib.hid (hW ▸ (Own.newAt (by simp)))
  rw [← hW]
  clear hW
  obtain ⟨D, eD⟩ : ∃ X, X = w1.heap.size := ⟨_, rfl⟩
  rw [← eD] at HD ⊢
  have Dw : w1.heap.size ≤ D := by omega
  clear eD
  have nRD : R ≠ D := by have := HR.out.lt; omega
  replace HR := Lib.hid (HR.out.later hq)
  have Dww : w.heap.size ≤ D := by have := hB1.size; omega
  have hB2 : Below w.heap.size w W1 := Below.go hB1 hq
  clear hB1 hq Dw
  have Dw := Dww
  clear Dww
  have oD := HD.out
  have D0 := oD.at 0 _ rfl
  have D1 := oD.at 1 _ rfl
  have D2 := oD.at 2 _ rfl
  have D3 := oD.at 3 _ rfl
  have D4 := oD.at 4 _ rfl
  have D5 := oD.at 5 _ rfl
  have D6 := oD.at 6 _ rfl
  have D7 := oD.at 7 _ rfl
  have D8 := oD.at 8 _ rfl
  have D9 := oD.at 9 _ rfl
  have D10 := oD.at 10 _ rfl
  have D11 := oD.at 11 _ rfl
  have Dl := oD.lt
  clear oD
  have oR := HR.out
  have R0 := oR.at 0 _ rfl
  have Rf0 := oR.ok 0 (by simp)
  have R1 := oR.at 1 _ rfl
  have Rf1 := oR.ok 1 (by simp)
  have R2 := oR.at 2 _ rfl
  have Rf2 := oR.ok 2 (by simp)
  have R3 := oR.at 3 _ rfl
  have Rf3 := oR.ok 3 (by simp)
  have R4 := oR.at 4 _ rfl
  have Rf4 := oR.ok 4 (by simp)
  have R5 := oR.at 5 _ rfl
  have Rf5 := oR.ok 5 (by simp)
  have R6 := oR.at 6 _ rfl
  have Rf6 := oR.ok 6 (by simp)
  have R7 := oR.at 7 _ rfl
  have Rf7 := oR.ok 7 (by simp)
  have R8 := oR.at 8 _ rfl
  have Rf8 := oR.ok 8 (by simp)
  have R9 := oR.at 9 _ rfl
  have Rf9 := oR.ok 9 (by simp)
  have R10 := oR.at 10 _ rfl
  have Rf10 := oR.ok 10 (by simp)
  have R11 := oR.at 11 _ rfl
  have Rf11 := oR.ok 11 (by simp)
  have Rl := oR.lt
  clear oR
  go_wp2
  exact bodyPost_ret (v := (.agg #[.int .i64 4294967296, .int .i64 0, .int .i64 0, .int .i64 0, .int .i64 4294967296, .int .i64 0, .int .i64 0, .int .i64 0, .int .i64 4294967296, .int .i64 0, .int .i64 0, .int .i64 0])) (by simp [results, Try.results52, go_sem, R0, R1, R2, R3, R4, R5, R6, R7, R8, R9, R10, R11]) rfl ⟨rfl, by repeat (first | (with_reducible assumption) | (with_reducible refine Below.setCell ?_ (by first | assumption | (simp; omega)) _))⟩

set_option maxHeartbeats 4000000 in
theorem RSize_1 (x0 : Int) (blk off cap : Nat) (w : World) (hx : Has blk off [.int .i64 x0] w) : Calls Try.prog 52 #[.slice (some ⟨blk, off, none⟩) 1 cap] w fun e w' => e = .returned (.agg #[.int .i64 x0, .int .i64 0, .int .i64 0, .int .i64 0, .int .i64 x0, .int .i64 0, .int .i64 0, .int .i64 0, .int .i64 x0, .int .i64 0, .int .i64 0, .int .i64 0]) ∧ Below w.heap.size w w' := by
  have sm := Lib.hid RSame_any
  have HX := Lib.hid hx
  clear hx
  go_enter Try.func52, Try.ntmps52
  go_upto_region 1 with fail
  obtain ⟨W0, hW⟩ : ∃ W0, W0 = (w.alloc (.cells #[.int .i64 0, .int .i64 0, .int .i64 0, .int .i64 0, .int .i64 0, .int .i64 0, .int .i64 0, .int .i64 0, .int .i64 0, .int .i64 0, .int .i64 0, .int .i64 0] 80)) := ⟨_, rfl⟩
  have hB0 : Below w.heap.size w W0 := hW ▸ (Below.al (Below.refl _ _))
  have HR : Hid (Own w.heap.size [.int .i64 0, .int .i64 0, .int .i64 0, .int .i64 0, .int .i64 0, .int .i64 0, .int .i64 0, .int .i64 0, .int .i64 0, .int .i64 0, .int .i64 0, .int .i64 0] W0) := Lib.hid (hW ▸ (Own.newAt (by simp)))
  rw [← hW]
  clear hW
  obtain ⟨R, eR⟩ : ∃ X, X = w.heap.size := ⟨_, rfl⟩
  rw [← eR] at HR ⊢
  have Rw : w.heap.size ≤ R := by omega
  clear eR
  go_wp2_with (fail)
  go_at_call 48; refine (sm.out _).mono ?_; rintro e w1 ⟨rfl, hb⟩
  replace HR := Lib.hid (HR.out.later hb)
  replace HX := Lib.hid ((HX.out.below hB0 HX.out.lt).later hb)
  have hB1 := Below.go hB0 hb
  clear hb hB0 sm
  go_upto_region 2 with fail
  obtain ⟨W1, hW⟩ : ∃ W1, W1 = (w1.alloc (.cells #[.int .i64 4294967296, .int .i64 0, .int .i64 0, .int .i64 0, .int .i64 4294967296, .int .i64 0, .int .i64 0, .int .i64 0, .int .i64 4294967296, .int .i64 0, .int .i64 0, .int .i64 0] 80)) := ⟨_, rfl⟩
  have hq : Below w1.heap.size w1 W1 := hW ▸ (Below.al (Below.refl _ _))
  have HD : Hid (Own w1.heap.size [.int .i64 4294967296, .int .i64 0, .int .i64 0, .int .i64 0, .int .i64 4294967296, .int .i64 0, .int .i64 0, .int .i64 0, .int .i64 4294967296, .int .i64 0, .int .i64 0, .int .i64 0] W1) := Lib.hid (hW ▸ (Own.newAt (by simp)))
  rw [← hW]
  clear hW
  obtain ⟨D, eD⟩ : ∃ X, X = w1.heap.size := ⟨_, rfl⟩
  rw [← eD] at HD ⊢
  have Dw : w1.heap.size ≤ D := by omega
  clear eD
  have nRD : R ≠ D := by have := HR.out.lt; omega
  have nbD : blk ≠ D := by have := HX.out.lt; omega
  replace HR := Lib.hid (HR.out.later hq)
  replace HX := Lib.hid (HX.out.later hq)
  have Dww : w.heap.size ≤ D := by have := hB1.size; omega
  have hB2 : Below w.heap.size w W1 := Below.go hB1 hq
  clear hB1 hq Dw
  have Dw := Dww
  clear Dww
  have oD := HD.out
  have D0 := oD.at 0 _ rfl
  have Df0 := oD.ok 0 (by simp)
  have D4 := oD.at 4 _ rfl
  have Df4 := oD.ok 4 (by simp)
  have D8 := oD.at 8 _ rfl
  have Df8 := oD.ok 8 (by simp)
  have Dl := oD.lt
  clear oD
  have oX := HX.out
  have k0 : W1.cell? ⟨blk, off, none⟩ = some (.int .i64 x0) := oX.at 0 _ rfl
  have Xl := oX.lt
  clear oX
  go_wp2_with (fail)
  go_region_held3 (fun w' => w'.cell? ⟨blk, off, none⟩ = some (.int .i64 x0)) (first | assumption | (simp [go_sem, *]; done)) (fail)
  all_goals (
    clear D0 Df0 D4 Df4 D8 Df8 Dl k0 Xl
    have e3 : ((((W1.setCell ⟨D, 0, none⟩ (.int .i64 x0)).setCell ⟨D, 4, none⟩ (.int .i64 x0)).setCell ⟨D, 8, none⟩ (.int .i64 x0)).drew) = ((((W1.setCells D 0 [.int .i64 x0]).setCells D 4 [.int .i64 x0]).setCells D 8 [.int .i64 x0]).drew) := rfl
    rw [e3]
    have HD3 : Hid (Own D [.int .i64 x0, .int .i64 0, .int .i64 0, .int .i64 0, .int .i64 x0, .int .i64 0, .int .i64 0, .int .i64 0, .int .i64 x0, .int .i64 0, .int .i64 0, .int .i64 0] ((((W1.setCells D 0 [.int .i64 x0]).setCells D 4 [.int .i64 x0]).setCells D 8 [.int .i64 x0]).drew)) := Lib.hid (show Own D (over (over (over _ 0 [.int .i64 x0]) 4 [.int .i64 x0]) 8 [.int .i64 x0]) _ from (Own.part (Own.part (Own.part HD.out (by simp)) (by simp [over])) (by simp [over])).drew)
    have HR3 : Hid (Own R [.int .i64 0, .int .i64 0, .int .i64 0, .int .i64 0, .int .i64 0, .int .i64 0, .int .i64 0, .int .i64 0, .int .i64 0, .int .i64 0, .int .i64 0, .int .i64 0] ((((W1.setCells D 0 [.int .i64 x0]).setCells D 4 [.int .i64 x0]).setCells D 8 [.int .i64 x0]).drew)) := Lib.hid ((((HR.out.far nRD).far nRD).far nRD).drew)
    have hB3 : Below w.heap.size w ((((W1.setCells D 0 [.int .i64 x0]).setCells D 4 [.int .i64 x0]).setCells D 8 [.int .i64 x0]).drew) := Below.drew (Below.setCells (Below.setCells (Below.setCells hB2 Dw _ _) Dw _ _) Dw _ _)
    generalize ((((W1.setCells D 0 [.int .i64 x0]).setCells D 4 [.int .i64 x0]).setCells D 8 [.int .i64 x0]).drew) = W2 at *
    clear HD HR HX hB2 e3
    have oD := HD3.out
    have D0 := oD.at 0 _ rfl
    have D1 := oD.at 1 _ rfl
    have D2 := oD.at 2 _ rfl
    have D3 := oD.at 3 _ rfl
    have D4 := oD.at 4 _ rfl
    have D5 := oD.at 5 _ rfl
    have D6 := oD.at 6 _ rfl
    have D7 := oD.at 7 _ rfl
    have D8 := oD.at 8 _ rfl
    have D9 := oD.at 9 _ rfl
    have D10 := oD.at 10 _ rfl
    have D11 := oD.at 11 _ rfl
    have Dl := oD.lt
    clear oD
    have oR := HR3.out
    have R0 := oR.at 0 _ rfl
    have Rf0 := oR.ok 0 (by simp)
    have R1 := oR.at 1 _ rfl
    have Rf1 := oR.ok 1 (by simp)
    have R2 := oR.at 2 _ rfl
    have Rf2 := oR.ok 2 (by simp)
    have R3 := oR.at 3 _ rfl
    have Rf3 := oR.ok 3 (by simp)
    have R4 := oR.at 4 _ rfl
    have Rf4 := oR.ok 4 (by simp)
    have R5 := oR.at 5 _ rfl
    have Rf5 := oR.ok 5 (by simp)
    have R6 := oR.at 6 _ rfl
    have Rf6 := oR.ok 6 (by simp)
    have R7 := oR.at 7 _ rfl
    have Rf7 := oR.ok 7 (by simp)
    have R8 := oR.at 8 _ rfl
    have Rf8 := oR.ok 8 (by simp)
    have R9 := oR.at 9 _ rfl
    have Rf9 := oR.ok 9 (by simp)
    have R10 := oR.at 10 _ rfl
    have Rf10 := oR.ok 10 (by simp)
    have R11 := oR.at 11 _ rfl
    have Rf11 := oR.ok 11 (by simp)
    have Rl := oR.lt
    clear oR

    go_wp2
    exact bodyPost_ret (v := (.agg #[.int .i64 x0, .int .i64 0, .int .i64 0, .int .i64 0, .int .i64 x0, .int .i64 0, .int .i64 0, .int .i64 0, .int .i64 x0, .int .i64 0, .int .i64 0, .int .i64 0])) (by simp [results, Try.results52, go_sem, R0, R1, R2, R3, R4, R5, R6, R7, R8, R9, R10, R11]) rfl ⟨rfl, by repeat (first | (with_reducible assumption) | (with_reducible refine Below.setCell ?_ (by first | assumption | (simp; omega)) _))⟩)

set_option maxHeartbeats 4000000 in
theorem RSize_2 (x0 : Int) (blk off cap : Nat) (w : World) (hx : Has blk off [.int .i64 x0] w) : Calls Try.prog 52 #[.slice (some ⟨blk, off, none⟩) 2 cap] w fun e w' => e = .returned (.agg #[.int .i64 x0, .int .i64 0, .int .i64 0, .int .i64 0, .int .i64 x0, .int .i64 0, .int .i64 0, .int .i64 0, .int .i64 x0, .int .i64 0, .int .i64 0, .int .i64 0]) ∧ Below w.heap.size w w' := by
  have sm := Lib.hid RSame_any
  have HX := Lib.hid hx
  clear hx
  go_enter Try.func52, Try.ntmps52
  go_upto_region 1 with fail
  obtain ⟨W0, hW⟩ : ∃ W0, W0 = (w.alloc (.cells #[.int .i64 0, .int .i64 0, .int .i64 0, .int .i64 0, .int .i64 0, .int .i64 0, .int .i64 0, .int .i64 0, .int .i64 0, .int .i64 0, .int .i64 0, .int .i64 0] 80)) := ⟨_, rfl⟩
  have hB0 : Below w.heap.size w W0 := hW ▸ (Below.al (Below.refl _ _))
  have HR : Hid (Own w.heap.size [.int .i64 0, .int .i64 0, .int .i64 0, .int .i64 0, .int .i64 0, .int .i64 0, .int .i64 0, .int .i64 0, .int .i64 0, .int .i64 0, .int .i64 0, .int .i64 0] W0) := Lib.hid (hW ▸ (Own.newAt (by simp)))
  rw [← hW]
  clear hW
  obtain ⟨R, eR⟩ : ∃ X, X = w.heap.size := ⟨_, rfl⟩
  rw [← eR] at HR ⊢
  have Rw : w.heap.size ≤ R := by omega
  clear eR
  go_wp2_with (fail)
  go_at_call 48; refine (sm.out _).mono ?_; rintro e w1 ⟨rfl, hb⟩
  replace HR := Lib.hid (HR.out.later hb)
  replace HX := Lib.hid ((HX.out.below hB0 HX.out.lt).later hb)
  have hB1 := Below.go hB0 hb
  clear hb hB0 sm
  go_upto_region 2 with fail
  obtain ⟨W1, hW⟩ : ∃ W1, W1 = (w1.alloc (.cells #[.int .i64 4294967296, .int .i64 0, .int .i64 0, .int .i64 0, .int .i64 4294967296, .int .i64 0, .int .i64 0, .int .i64 0, .int .i64 4294967296, .int .i64 0, .int .i64 0, .int .i64 0] 80)) := ⟨_, rfl⟩
  have hq : Below w1.heap.size w1 W1 := hW ▸ (Below.al (Below.refl _ _))
  have HD : Hid (Own w1.heap.size [.int .i64 4294967296, .int .i64 0, .int .i64 0, .int .i64 0, .int .i64 4294967296, .int .i64 0, .int .i64 0, .int .i64 0, .int .i64 4294967296, .int .i64 0, .int .i64 0, .int .i64 0] W1) := Lib.hid (hW ▸ (Own.newAt (by simp)))
  rw [← hW]
  clear hW
  obtain ⟨D, eD⟩ : ∃ X, X = w1.heap.size := ⟨_, rfl⟩
  rw [← eD] at HD ⊢
  have Dw : w1.heap.size ≤ D := by omega
  clear eD
  have nRD : R ≠ D := by have := HR.out.lt; omega
  have nbD : blk ≠ D := by have := HX.out.lt; omega
  replace HR := Lib.hid (HR.out.later hq)
  replace HX := Lib.hid (HX.out.later hq)
  have Dww : w.heap.size ≤ D := by have := hB1.size; omega
  have hB2 : Below w.heap.size w W1 := Below.go hB1 hq
  clear hB1 hq Dw
  have Dw := Dww
  clear Dww
  have oD := HD.out
  have D0 := oD.at 0 _ rfl
  have Df0 := oD.ok 0 (by simp)
  have D4 := oD.at 4 _ rfl
  have Df4 := oD.ok 4 (by simp)
  have D8 := oD.at 8 _ rfl
  have Df8 := oD.ok 8 (by simp)
  have Dl := oD.lt
  clear oD
  have oX := HX.out
  have k0 : W1.cell? ⟨blk, off, none⟩ = some (.int .i64 x0) := oX.at 0 _ rfl
  have Xl := oX.lt
  clear oX
  go_wp2_with (fail)
  go_region_held3 (fun w' => w'.cell? ⟨blk, off, none⟩ = some (.int .i64 x0)) (first | assumption | (simp [go_sem, *]; done)) (fail)
  all_goals (
    clear D0 Df0 D4 Df4 D8 Df8 Dl k0 Xl
    have e3 : ((((W1.setCell ⟨D, 0, none⟩ (.int .i64 x0)).setCell ⟨D, 4, none⟩ (.int .i64 x0)).setCell ⟨D, 8, none⟩ (.int .i64 x0)).drew) = ((((W1.setCells D 0 [.int .i64 x0]).setCells D 4 [.int .i64 x0]).setCells D 8 [.int .i64 x0]).drew) := rfl
    rw [e3]
    have HD3 : Hid (Own D [.int .i64 x0, .int .i64 0, .int .i64 0, .int .i64 0, .int .i64 x0, .int .i64 0, .int .i64 0, .int .i64 0, .int .i64 x0, .int .i64 0, .int .i64 0, .int .i64 0] ((((W1.setCells D 0 [.int .i64 x0]).setCells D 4 [.int .i64 x0]).setCells D 8 [.int .i64 x0]).drew)) := Lib.hid (show Own D (over (over (over _ 0 [.int .i64 x0]) 4 [.int .i64 x0]) 8 [.int .i64 x0]) _ from (Own.part (Own.part (Own.part HD.out (by simp)) (by simp [over])) (by simp [over])).drew)
    have HR3 : Hid (Own R [.int .i64 0, .int .i64 0, .int .i64 0, .int .i64 0, .int .i64 0, .int .i64 0, .int .i64 0, .int .i64 0, .int .i64 0, .int .i64 0, .int .i64 0, .int .i64 0] ((((W1.setCells D 0 [.int .i64 x0]).setCells D 4 [.int .i64 x0]).setCells D 8 [.int .i64 x0]).drew)) := Lib.hid ((((HR.out.far nRD).far nRD).far nRD).drew)
    have hB3 : Below w.heap.size w ((((W1.setCells D 0 [.int .i64 x0]).setCells D 4 [.int .i64 x0]).setCells D 8 [.int .i64 x0]).drew) := Below.drew (Below.setCells (Below.setCells (Below.setCells hB2 Dw _ _) Dw _ _) Dw _ _)
    generalize ((((W1.setCells D 0 [.int .i64 x0]).setCells D 4 [.int .i64 x0]).setCells D 8 [.int .i64 x0]).drew) = W2 at *
    clear HD HR HX hB2 e3
    have oD := HD3.out
    have D0 := oD.at 0 _ rfl
    have D1 := oD.at 1 _ rfl
    have D2 := oD.at 2 _ rfl
    have D3 := oD.at 3 _ rfl
    have D4 := oD.at 4 _ rfl
    have D5 := oD.at 5 _ rfl
    have D6 := oD.at 6 _ rfl
    have D7 := oD.at 7 _ rfl
    have D8 := oD.at 8 _ rfl
    have D9 := oD.at 9 _ rfl
    have D10 := oD.at 10 _ rfl
    have D11 := oD.at 11 _ rfl
    have Dl := oD.lt
    clear oD
    have oR := HR3.out
    have R0 := oR.at 0 _ rfl
    have Rf0 := oR.ok 0 (by simp)
    have R1 := oR.at 1 _ rfl
    have Rf1 := oR.ok 1 (by simp)
    have R2 := oR.at 2 _ rfl
    have Rf2 := oR.ok 2 (by simp)
    have R3 := oR.at 3 _ rfl
    have Rf3 := oR.ok 3 (by simp)
    have R4 := oR.at 4 _ rfl
    have Rf4 := oR.ok 4 (by simp)
    have R5 := oR.at 5 _ rfl
    have Rf5 := oR.ok 5 (by simp)
    have R6 := oR.at 6 _ rfl
    have Rf6 := oR.ok 6 (by simp)
    have R7 := oR.at 7 _ rfl
    have Rf7 := oR.ok 7 (by simp)
    have R8 := oR.at 8 _ rfl
    have Rf8 := oR.ok 8 (by simp)
    have R9 := oR.at 9 _ rfl
    have Rf9 := oR.ok 9 (by simp)
    have R10 := oR.at 10 _ rfl
    have Rf10 := oR.ok 10 (by simp)
    have R11 := oR.at 11 _ rfl
    have Rf11 := oR.ok 11 (by simp)
    have Rl := oR.lt
    clear oR

    go_wp2
    exact bodyPost_ret (v := (.agg #[.int .i64 x0, .int .i64 0, .int .i64 0, .int .i64 0, .int .i64 x0, .int .i64 0, .int .i64 0, .int .i64 0, .int .i64 x0, .int .i64 0, .int .i64 0, .int .i64 0])) (by simp [results, Try.results52, go_sem, R0, R1, R2, R3, R4, R5, R6, R7, R8, R9, R10, R11]) rfl ⟨rfl, by repeat (first | (with_reducible assumption) | (with_reducible refine Below.setCell ?_ (by first | assumption | (simp; omega)) _))⟩)

set_option maxHeartbeats 4000000 in
theorem RSize_3 (x0 x1 x2 : Int) (blk off n cap : Nat) (hn : 3 ≤ n) (w : World) (hx : Has blk off [.int .i64 x0, .int .i64 x1, .int .i64 x2] w) : Calls Try.prog 52 #[.slice (some ⟨blk, off, none⟩) n cap] w fun e w' => e = .returned (.agg #[.int .i64 x0, .int .i64 0, .int .i64 0, .int .i64 0, .int .i64 x1, .int .i64 0, .int .i64 0, .int .i64 0, .int .i64 x2, .int .i64 0, .int .i64 0, .int .i64 0]) ∧ Below w.heap.size w w' := by
  have sm := Lib.hid RSame_any
  have HX := Lib.hid hx
  clear hx
  have t1 : ((n : Int) == 1) = false := by simp; omega
  have t2 : ((n : Int) == 2) = false := by simp; omega
  have u0 : (0 : Int) < (n : Int) := by omega
  have u1 : (1 : Int) < (n : Int) := by omega
  have u2 : (2 : Int) < (n : Int) := by omega
  have z0 : 0 < n := by omega
  have z1 : 1 < n := by omega
  have z2 : 2 < n := by omega
  go_enter Try.func52, Try.ntmps52
  go_upto_region 1 with fail
  obtain ⟨W0, hW⟩ : ∃ W0, W0 = (w.alloc (.cells #[.int .i64 0, .int .i64 0, .int .i64 0, .int .i64 0, .int .i64 0, .int .i64 0, .int .i64 0, .int .i64 0, .int .i64 0, .int .i64 0, .int .i64 0, .int .i64 0] 80)) := ⟨_, rfl⟩
  have hB0 : Below w.heap.size w W0 := hW ▸ (Below.al (Below.refl _ _))
  have HR : Hid (Own w.heap.size [.int .i64 0, .int .i64 0, .int .i64 0, .int .i64 0, .int .i64 0, .int .i64 0, .int .i64 0, .int .i64 0, .int .i64 0, .int .i64 0, .int .i64 0, .int .i64 0] W0) := Lib.hid (hW ▸ (Own.newAt (by simp)))
  rw [← hW]
  clear hW
  obtain ⟨R, eR⟩ : ∃ X, X = w.heap.size := ⟨_, rfl⟩
  rw [← eR] at HR ⊢
  have Rw : w.heap.size ≤ R := by omega
  clear eR
  go_wp2_with (fail)
  go_at_call 48; refine (sm.out _).mono ?_; rintro e w1 ⟨rfl, hb⟩
  replace HR := Lib.hid (HR.out.later hb)
  replace HX := Lib.hid ((HX.out.below hB0 HX.out.lt).later hb)
  have hB1 := Below.go hB0 hb
  clear hb hB0 sm
  go_upto_region 2 with fail
  obtain ⟨W1, hW⟩ : ∃ W1, W1 = (w1.alloc (.cells #[.int .i64 4294967296, .int .i64 0, .int .i64 0, .int .i64 0, .int .i64 4294967296, .int .i64 0, .int .i64 0, .int .i64 0, .int .i64 4294967296, .int .i64 0, .int .i64 0, .int .i64 0] 80)) := ⟨_, rfl⟩
  have hq : Below w1.heap.size w1 W1 := hW ▸ (Below.al (Below.refl _ _))
  have HD : Hid (Own w1.heap.size [.int .i64 4294967296, .int .i64 0, .int .i64 0, .int .i64 0, .int .i64 4294967296, .int .i64 0, .int .i64 0, .int .i64 0, .int .i64 4294967296, .int .i64 0, .int .i64 0, .int .i64 0] W1) := Lib.hid (hW ▸ (Own.newAt (by simp)))
  rw [← hW]
  clear hW
  obtain ⟨D, eD⟩ : ∃ X, X = w1.heap.size := ⟨_, rfl⟩
  rw [← eD] at HD ⊢
  have Dw : w1.heap.size ≤ D := by omega
  clear eD
  have nRD : R ≠ D := by have := HR.out.lt; omega
  have nbD : blk ≠ D := by have := HX.out.lt; omega
  replace HR := Lib.hid (HR.out.later hq)
  replace HX := Lib.hid (HX.out.later hq)
  have Dww : w.heap.size ≤ D := by have := hB1.size; omega
  have hB2 : Below w.heap.size w W1 := Below.go hB1 hq
  clear hB1 hq Dw
  have Dw := Dww
  clear Dww
  have oD := HD.out
  have D0 := oD.at 0 _ rfl
  have Df0 := oD.ok 0 (by simp)
  have D4 := oD.at 4 _ rfl
  have Df4 := oD.ok 4 (by simp)
  have D8 := oD.at 8 _ rfl
  have Df8 := oD.ok 8 (by simp)
  have Dl := oD.lt
  clear oD
  have oX := HX.out
  have k0 : W1.cell? ⟨blk, off, none⟩ = some (.int .i64 x0) := oX.at 0 _ rfl
  have k1 : W1.cell? ⟨blk, off + 1, none⟩ = some (.int .i64 x1) := oX.at 1 _ rfl
  have k2 : W1.cell? ⟨blk, off + 2, none⟩ = some (.int .i64 x2) := oX.at 2 _ rfl
  have Xl := oX.lt
  clear oX
  go_wp2_with (fail)
  go_region_held3 (fun w' => w'.cell? ⟨blk, off, none⟩ = some (.int .i64 x0) ∧ w'.cell? ⟨blk, off + 1, none⟩ = some (.int .i64 x1) ∧ w'.cell? ⟨blk, off + 2, none⟩ = some (.int .i64 x2)) (first | assumption | (simp [go_sem, *]; done)) (fail)
  all_goals (
    clear D0 Df0 D4 Df4 D8 Df8 Dl k0 k1 k2 Xl
    have e3 : ((((W1.setCell ⟨D, 0, none⟩ (.int .i64 x0)).setCell ⟨D, 4, none⟩ (.int .i64 x1)).setCell ⟨D, 8, none⟩ (.int .i64 x2)).drew) = ((((W1.setCells D 0 [.int .i64 x0]).setCells D 4 [.int .i64 x1]).setCells D 8 [.int .i64 x2]).drew) := rfl
    rw [e3]
    have HD3 : Hid (Own D [.int .i64 x0, .int .i64 0, .int .i64 0, .int .i64 0, .int .i64 x1, .int .i64 0, .int .i64 0, .int .i64 0, .int .i64 x2, .int .i64 0, .int .i64 0, .int .i64 0] ((((W1.setCells D 0 [.int .i64 x0]).setCells D 4 [.int .i64 x1]).setCells D 8 [.int .i64 x2]).drew)) := Lib.hid (show Own D (over (over (over _ 0 [.int .i64 x0]) 4 [.int .i64 x1]) 8 [.int .i64 x2]) _ from (Own.part (Own.part (Own.part HD.out (by simp)) (by simp [over])) (by simp [over])).drew)
    have HR3 : Hid (Own R [.int .i64 0, .int .i64 0, .int .i64 0, .int .i64 0, .int .i64 0, .int .i64 0, .int .i64 0, .int .i64 0, .int .i64 0, .int .i64 0, .int .i64 0, .int .i64 0] ((((W1.setCells D 0 [.int .i64 x0]).setCells D 4 [.int .i64 x1]).setCells D 8 [.int .i64 x2]).drew)) := Lib.hid ((((HR.out.far nRD).far nRD).far nRD).drew)
    have hB3 : Below w.heap.size w ((((W1.setCells D 0 [.int .i64 x0]).setCells D 4 [.int .i64 x1]).setCells D 8 [.int .i64 x2]).drew) := Below.drew (Below.setCells (Below.setCells (Below.setCells hB2 Dw _ _) Dw _ _) Dw _ _)
    generalize ((((W1.setCells D 0 [.int .i64 x0]).setCells D 4 [.int .i64 x1]).setCells D 8 [.int .i64 x2]).drew) = W2 at *
    clear HD HR HX hB2 e3
    have oD := HD3.out
    have D0 := oD.at 0 _ rfl
    have D1 := oD.at 1 _ rfl
    have D2 := oD.at 2 _ rfl
    have D3 := oD.at 3 _ rfl
    have D4 := oD.at 4 _ rfl
    have D5 := oD.at 5 _ rfl
    have D6 := oD.at 6 _ rfl
    have D7 := oD.at 7 _ rfl
    have D8 := oD.at 8 _ rfl
    have D9 := oD.at 9 _ rfl
    have D10 := oD.at 10 _ rfl
    have D11 := oD.at 11 _ rfl
    have Dl := oD.lt
    clear oD
    have oR := HR3.out
    have R0 := oR.at 0 _ rfl
    have Rf0 := oR.ok 0 (by simp)
    have R1 := oR.at 1 _ rfl
    have Rf1 := oR.ok 1 (by simp)
    have R2 := oR.at 2 _ rfl
    have Rf2 := oR.ok 2 (by simp)
    have R3 := oR.at 3 _ rfl
    have Rf3 := oR.ok 3 (by simp)
    have R4 := oR.at 4 _ rfl
    have Rf4 := oR.ok 4 (by simp)
    have R5 := oR.at 5 _ rfl
    have Rf5 := oR.ok 5 (by simp)
    have R6 := oR.at 6 _ rfl
    have Rf6 := oR.ok 6 (by simp)
    have R7 := oR.at 7 _ rfl
    have Rf7 := oR.ok 7 (by simp)
    have R8 := oR.at 8 _ rfl
    have Rf8 := oR.ok 8 (by simp)
    have R9 := oR.at 9 _ rfl
    have Rf9 := oR.ok 9 (by simp)
    have R10 := oR.at 10 _ rfl
    have Rf10 := oR.ok 10 (by simp)
    have R11 := oR.at 11 _ rfl
    have Rf11 := oR.ok 11 (by simp)
    have Rl := oR.lt
    clear oR

    go_wp2
    exact bodyPost_ret (v := (.agg #[.int .i64 x0, .int .i64 0, .int .i64 0, .int .i64 0, .int .i64 x1, .int .i64 0, .int .i64 0, .int .i64 0, .int .i64 x2, .int .i64 0, .int .i64 0, .int .i64 0])) (by simp [results, Try.results52, go_sem, R0, R1, R2, R3, R4, R5, R6, R7, R8, R9, R10, R11]) rfl ⟨rfl, by repeat (first | (with_reducible assumption) | (with_reducible refine Below.setCell ?_ (by first | assumption | (simp; omega)) _))⟩)
end Go.Proofs.Ytgggngcgcpmkbaa

/- BC -/
namespace Go.Proofs.Ytgggngcgcpmkbaa
set_option linter.unusedVariables false
set_option maxRecDepth 2000
set_option linter.unusedSimpArgs false
open Go.RowKit
attribute [local go_sem] setCell_twice setCell_pair

theorem Axes_1 (x0 y0 z0 : Int) (blk off cap : Nat) (w : World) (hx : Has blk off [.int .i64 x0, .int .i64 y0, .int .i64 z0] w) : Calls Try.prog 53 #[.slice (some ⟨blk, off, none⟩) 1 cap] w fun e w' => e = .returned (.agg #[.int .i64 x0, .int .i64 0, .int .i64 0, .int .i64 y0, .int .i64 4294967296, .int .i64 0, .int .i64 z0, .int .i64 0, .int .i64 4294967296, .int .i64 0, .int .i64 0, .int .i64 0]) ∧ Below w.heap.size w w' :=
  Axes_core x0 y0 z0 0 4294967296 0 0 0 4294967296 0 0 0 (some ⟨blk, off, none⟩) 1 cap 1 [.int .i64 x0, .int .i64 y0, .int .i64 z0] (by simp) rfl w (Lib.hid fun W b ty hB hO => by
    have hm : Nat.min 1 4 = 1 := rfl
    have h := run_copy_rows (P := Try.prog) (S := 3) W 77 77 ty _ b 0 4 4 ⟨blk, off, none⟩ 1 cap [.int .i64 x0, .int .i64 y0, .int .i64 z0] Try.underlying77 infoVecSize (by rw [hm]; rfl)
      (fun j v hj => by rw [Addr.add_mid]; exact (hx.later hB).at j v hj) (fun i hi => hO.free i (by simp at hi ⊢; omega)) (by simp [Value.oneCell'])
    rw [hm] at h
    exact h)

theorem Axes_2 (x0 y0 z0 x1 y1 z1 : Int) (blk off cap : Nat) (w : World) (hx : Has blk off [.int .i64 x0, .int .i64 y0, .int .i64 z0, .int .i64 x1, .int .i64 y1, .int .i64 z1] w) : Calls Try.prog 53 #[.slice (some ⟨blk, off, none⟩) 2 cap] w fun e w' => e = .returned (.agg #[.int .i64 x0, .int .i64 x1, .int .i64 0, .int .i64 y0, .int .i64 y1, .int .i64 0, .int .i64 z0, .int .i64 z1, .int .i64 4294967296, .int .i64 0, .int .i64 0, .int .i64 0]) ∧ Below w.heap.size w w' :=
  Axes_core x0 y0 z0 x1 y1 z1 0 0 4294967296 0 0 0 (some ⟨blk, off, none⟩) 2 cap 2 [.int .i64 x0, .int .i64 y0, .int .i64 z0, .int .i64 x1, .int .i64 y1, .int .i64 z1] (by simp) rfl w (Lib.hid fun W b ty hB hO => by
    have hm : Nat.min 2 4 = 2 := rfl
    have h := run_copy_rows (P := Try.prog) (S := 3) W 77 77 ty _ b 0 4 4 ⟨blk, off, none⟩ 2 cap [.int .i64 x0, .int .i64 y0, .int .i64 z0, .int .i64 x1, .int .i64 y1, .int .i64 z1] Try.underlying77 infoVecSize (by rw [hm]; rfl)
      (fun j v hj => by rw [Addr.add_mid]; exact (hx.later hB).at j v hj) (fun i hi => hO.free i (by simp at hi ⊢; omega)) (by simp [Value.oneCell'])
    rw [hm] at h
    exact h)

theorem Axes_3 (x0 y0 z0 x1 y1 z1 x2 y2 z2 : Int) (blk off cap : Nat) (w : World) (hx : Has blk off [.int .i64 x0, .int .i64 y0, .int .i64 z0, .int .i64 x1, .int .i64 y1, .int .i64 z1, .int .i64 x2, .int .i64 y2, .int .i64 z2] w) : Calls Try.prog 53 #[.slice (some ⟨blk, off, none⟩) 3 cap] w fun e w' => e = .returned (.agg #[.int .i64 x0, .int .i64 x1, .int .i64 x2, .int .i64 y0, .int .i64 y1, .int .i64 y2, .int .i64 z0, .int .i64 z1, .int .i64 z2, .int .i64 0, .int .i64 0, .int .i64 0]) ∧ Below w.heap.size w w' :=
  Axes_core x0 y0 z0 x1 y1 z1 x2 y2 z2 0 0 0 (some ⟨blk, off, none⟩) 3 cap 3 [.int .i64 x0, .int .i64 y0, .int .i64 z0, .int .i64 x1, .int .i64 y1, .int .i64 z1, .int .i64 x2, .int .i64 y2, .int .i64 z2] (by simp) rfl w (Lib.hid fun W b ty hB hO => by
    have hm : Nat.min 3 4 = 3 := rfl
    have h := run_copy_rows (P := Try.prog) (S := 3) W 77 77 ty _ b 0 4 4 ⟨blk, off, none⟩ 3 cap [.int .i64 x0, .int .i64 y0, .int .i64 z0, .int .i64 x1, .int .i64 y1, .int .i64 z1, .int .i64 x2, .int .i64 y2, .int .i64 z2] Try.underlying77 infoVecSize (by rw [hm]; rfl)
      (fun j v hj => by rw [Addr.add_mid]; exact (hx.later hB).at j v hj) (fun i hi => hO.free i (by simp at hi ⊢; omega)) (by simp [Value.oneCell'])
    rw [hm] at h
    exact h)

theorem Axes_4 (x0 y0 z0 x1 y1 z1 x2 y2 z2 x3 y3 z3 : Int) (blk off n cap : Nat) (hn : 4 ≤ n) (w : World) (hx : Has blk off [.int .i64 x0, .int .i64 y0, .int .i64 z0, .int .i64 x1, .int .i64 y1, .int .i64 z1, .int .i64 x2, .int .i64 y2, .int .i64 z2, .int .i64 x3, .int .i64 y3, .int .i64 z3] w) : Calls Try.prog 53 #[.slice (some ⟨blk, off, none⟩) n cap] w fun e w' => e = .returned (.agg #[.int .i64 x0, .int .i64 x1, .int .i64 x2, .int .i64 y0, .int .i64 y1, .int .i64 y2, .int .i64 z0, .int .i64 z1, .int .i64 z2, .int .i64 x3, .int .i64 y3, .int .i64 z3]) ∧ Below w.heap.size w w' :=
  Axes_core x0 y0 z0 x1 y1 z1 x2 y2 z2 x3 y3 z3 (some ⟨blk, off, none⟩) n cap 4 [.int .i64 x0, .int .i64 y0, .int .i64 z0, .int .i64 x1, .int .i64 y1, .int .i64 z1, .int .i64 x2, .int .i64 y2, .int .i64 z2, .int .i64 x3, .int .i64 y3, .int .i64 z3] (by simp) rfl w (Lib.hid fun W b ty hB hO => by
    have hm : Nat.min n 4 = 4 := Nat.min_eq_right hn
    have h := run_copy_rows (P := Try.prog) (S := 3) W 77 77 ty _ b 0 4 4 ⟨blk, off, none⟩ n cap [.int .i64 x0, .int .i64 y0, .int .i64 z0, .int .i64 x1, .int .i64 y1, .int .i64 z1, .int .i64 x2, .int .i64 y2, .int .i64 z2, .int .i64 x3, .int .i64 y3, .int .i64 z3] Try.underlying77 infoVecSize (by rw [hm]; rfl)
      (fun j v hj => by rw [Addr.add_mid]; exact (hx.later hB).at j v hj) (fun i hi => hO.free i (by simp at hi ⊢; omega)) (by simp [Value.oneCell'])
    rw [hm] at h
    exact h)
end Go.Proofs.Ytgggngcgcpmkbaa

/- BD -/
namespace Go.Proofs.Ytgggngcgcpmkbaa
set_option linter.unusedVariables false
set_option maxRecDepth 2000
set_option linter.unusedSimpArgs false
open Go.RowKit
attribute [local go_sem] setCell_twice setCell_pair
attribute [local go_sem ↓] eqA neqA
theorem sliced_head (p : Option Addr) (h c S : Nat) : sliced p 0 h c S = .slice p h c := by
  cases p with
  | none => simp [sliced]
  | some a => cases a; simp [sliced, Addr.add]
attribute [local go_sem ↓ high] sliced_head

set_option maxHeartbeats 4000000 in
theorem Makes_core (RS RX : Aff) (x y z : Int) (p q : Option Addr) (n1 c1 n2 c2 : Nat) (hn : n1 ≤ c1) (hc : c1 ≤ 9223372036854775807) (hm : n2 ≤ c2) (hx : c2 ≤ 9223372036854775807) (T1 T2 : Nat) (e1 : (if (6 : Int) < (n1 : Int) then (6 : Int) else (n1 : Int)) = (T1 : Int)) (e2 : (if (6 : Int) < (n2 : Int) then (6 : Int) else (n2 : Int)) = (T2 : Int)) (b1 : T1 ≤ c1) (b2 : T2 ≤ c2) (w : World)
    (k1 : Hid (∀ w, Calls Try.prog 47 #[] w fun e w' => e = .returned (.agg #[.int .i64 4294967296, .int .i64 0, .int .i64 0, .int .i64 0, .int .i64 4294967296, .int .i64 0, .int .i64 0, .int .i64 0, .int .i64 4294967296, .int .i64 0, .int .i64 0, .int .i64 0]) ∧ Below w.heap.size w w')) (k2 : Hid (∀ w, Calls Try.prog 48 #[] w fun e w' => e = .returned (.agg #[.int .i64 4294967296, .int .i64 0, .int .i64 0, .int .i64 0, .int .i64 4294967296, .int .i64 0, .int .i64 0, .int .i64 0, .int .i64 4294967296, .int .i64 0, .int .i64 0, .int .i64 0]) ∧ Below w.heap.size w w'))
    (k3 : Hid (∀ w, Calls Try.prog 49 #[(.agg #[.int .i64 x, .int .i64 y, .int .i64 z])] w fun e w' => e = .returned (.agg #[.int .i64 4294967296, .int .i64 0, .int .i64 0, .int .i64 0, .int .i64 4294967296, .int .i64 0, .int .i64 0, .int .i64 0, .int .i64 4294967296, .int .i64 x, .int .i64 y, .int .i64 z]) ∧ Below w.heap.size w w')) (k4 : Hid (∀ w, Calls Try.prog 50 #[(.agg #[.int .i64 x, .int .i64 y, .int .i64 z])] w fun e w' => e = .returned (.agg #[.int .i64 4294967296, .int .i64 0, .int .i64 0, .int .i64 0, .int .i64 4294967296, .int .i64 0, .int .i64 0, .int .i64 0, .int .i64 4294967296, .int .i64 x, .int .i64 y, .int .i64 z]) ∧ Below w.heap.size w w'))
    (k5 : Hid (∀ w', Below w.heap.size w w' → Calls Try.prog 51 #[.slice p T1 c1] w' fun e w'' => e = .returned (.agg #[.int .i64 RS.m0, .int .i64 RS.m1, .int .i64 RS.m2, .int .i64 RS.m3, .int .i64 RS.m4, .int .i64 RS.m5, .int .i64 RS.m6, .int .i64 RS.m7, .int .i64 RS.m8, .int .i64 RS.tx, .int .i64 RS.ty, .int .i64 RS.tz]) ∧ Below w'.heap.size w' w'')) (k6 : Hid (∀ w', Below w.heap.size w w' → Calls Try.prog 52 #[.slice p T1 c1] w' fun e w'' => e = .returned (.agg #[.int .i64 RS.m0, .int .i64 RS.m1, .int .i64 RS.m2, .int .i64 RS.m3, .int .i64 RS.m4, .int .i64 RS.m5, .int .i64 RS.m6, .int .i64 RS.m7, .int .i64 RS.m8, .int .i64 RS.tx, .int .i64 RS.ty, .int .i64 RS.tz]) ∧ Below w'.heap.size w' w''))
    (k7 : Hid (∀ w', Below w.heap.size w w' → Calls Try.prog 53 #[.slice q T2 c2] w' fun e w'' => e = .returned (.agg #[.int .i64 RX.m0, .int .i64 RX.m1, .int .i64 RX.m2, .int .i64 RX.m3, .int .i64 RX.m4, .int .i64 RX.m5, .int .i64 RX.m6, .int .i64 RX.m7, .int .i64 RX.m8, .int .i64 RX.tx, .int .i64 RX.ty, .int .i64 RX.tz]) ∧ Below w'.heap.size w' w'')) (k8 : Hid (∀ w', Below w.heap.size w w' → Calls Try.prog 54 #[.slice q T2 c2] w' fun e w'' => e = .returned (.agg #[.int .i64 RX.m0, .int .i64 RX.m1, .int .i64 RX.m2, .int .i64 RX.m3, .int .i64 RX.m4, .int .i64 RX.m5, .int .i64 RX.m6, .int .i64 RX.m7, .int .i64 RX.m8, .int .i64 RX.tx, .int .i64 RX.ty, .int .i64 RX.tz]) ∧ Below w'.heap.size w' w''))
    (k9 : Hid (∀ w, Calls Try.prog 55 #[] w fun e w' => e = .returned (.bool true) ∧ Below w.heap.size w w')) : Calls Try.prog 12 #[.slice p n1 c1, .slice q n2 c2, (.agg #[.int .i64 x, .int .i64 y, .int .i64 z])] w fun e w' => e = .returned (.bool true) ∧ Below w.heap.size w w' := by
  have u1 : (0 : Int) ≤ (T1 : Int) := by omega
  have u2 : (0 : Int) ≤ (T2 : Int) := by omega
  have v1 : (T1 : Int) ≤ (c1 : Int) := by omega
  have v2 : (T2 : Int) ≤ (c2 : Int) := by omega
  have E1 := Lib.hid e1; have E2 := Lib.hid e2
  clear e1 e2 b1 b2 hn hm
  go_enter Try.func12, Try.ntmps12
  go_upto_region 1 with fail
  obtain ⟨W0, hW⟩ : ∃ W0, W0 = (w.alloc (.cells #[.int .i64 x, .int .i64 y, .int .i64 z] 36)) := ⟨_, rfl⟩
  have hB0 : Below w.heap.size w W0 := hW ▸ (Below.al (Below.refl _ _))
  have HV : Hid (Own w.heap.size [.int .i64 x, .int .i64 y, .int .i64 z] W0) := Lib.hid (hW ▸ (Own.newAt (by simp)))
  rw [← hW]
  clear hW
  obtain ⟨V, eV⟩ : ∃ X, X = w.heap.size := ⟨_, rfl⟩
  rw [← eV] at HV ⊢
  have Vw : w.heap.size ≤ V := by omega
  clear eV
  refine wp_region_fun 12 (by kernel_rfl) (by kernel_rfl) rfl (fun s b => ⟨#[s 0, s 1, (.agg #[.int .i64 x, .int .i64 y, .int .i64 z]), undef, undef, .pointer (some ⟨V, 0, none⟩), .bool false, s 7, s 8, s 9, s 10, s 11, s 12, s 13, s 14, s 15, s 16, undef, undef, undef, undef, undef, undef, undef, undef, undef, undef, undef, undef, undef, undef, undef, undef, undef, undef, undef, undef, undef, undef, undef, undef, undef, undef, undef], []⟩) (fun d s b w => (Below W0.heap.size W0 w) ∧ (d 0 = true → s 7 = .slice p n1 c1) ∧ (d 1 = true → s 8 = .slice p n1 c1) ∧ (d 2 = true → s 9 = .int .i64 ((n1 : Nat) : Int)) ∧ (d 3 = true → s 10 = .int .i64 ((T1 : Nat) : Int)) ∧ (d 4 = true → s 11 = .slice p T1 c1) ∧ (d 5 = true → s 12 = .slice q n2 c2) ∧ (d 6 = true → s 13 = .slice q n2 c2) ∧ (d 7 = true → s 14 = .int .i64 ((n2 : Nat) : Int)) ∧ (d 8 = true → s 15 = .int .i64 ((T2 : Nat) : Int)) ∧ (d 9 = true → s 16 = .slice q T2 c2) ∧ (d 10 = true → s 0 = .slice p T1 c1) ∧ (d 10 = false → s 0 = .slice p n1 c1) ∧ (d 10 = true → d 0 = true) ∧ (d 10 = true → d 1 = true) ∧ (d 11 = true → s 1 = .slice q T2 c2) ∧ (d 11 = false → s 1 = .slice q n2 c2) ∧ (d 11 = true → d 5 = true) ∧ (d 11 = true → d 6 = true)) rfl ?h0y5 (?sty5 : StepsF _ _ _ _ 12 _ _ [0, 1, 2, 3, 4, 5, 6, 7, 8, 9, 10, 11]) ?dny5
  case h0y5 => exact ⟨Below.drew (Below.refl _ _), (fun h => nomatch h), (fun h => nomatch h), (fun h => nomatch h), (fun h => nomatch h), (fun h => nomatch h), (fun h => nomatch h), (fun h => nomatch h), (fun h => nomatch h), (fun h => nomatch h), (fun h => nomatch h), (fun h => nomatch h), (fun _ => rfl), (fun h => nomatch h), (fun h => nomatch h), (fun h => nomatch h), (fun _ => rfl), (fun h => nomatch h), (fun h => nomatch h)⟩
  case sty5 =>
    refine StepsF.cons (o := _) rfl (ws := []) (by kernel_rfl) (by decide) (fun d s b w hF hd hw K hK => ?_) ?_
    · have hB : Below W0.heap.size W0 w := (p0_ hF.out)
      have e10 : s 0 = .slice p n1 c1 := (p12_ hF.out) (by cases e : d 10 with | false => rfl | true => exact absurd ((p13_ hF.out) e) (by simp [hd]))
      dsimp only
      go_simp
      exact hK.out (ups (ups s 0 (.slice p n1 c1)) 7 (.slice p n1 c1)) b _ ⟨hB, (fun _ => rfl), (p2_ hF.out), (p3_ hF.out), (p4_ hF.out), (p5_ hF.out), (p6_ hF.out), (p7_ hF.out), (p8_ hF.out), (p9_ hF.out), (p10_ hF.out), (fun h => absurd ((p13_ hF.out) h) (by simp [hd])), (fun _ => rfl), (fun _ => rfl), (p14_ hF.out), (p15_ hF.out), (p16_ hF.out), (p17_ hF.out), (q18_ hF.out)⟩
    refine StepsF.cons (o := _) rfl (ws := []) (by kernel_rfl) (by decide) (fun d s b w hF hd hw K hK => ?_) ?_
    · have hB : Below W0.heap.size W0 w := (p0_ hF.out)
      have e10 : s 0 = .slice p n1 c1 := (p12_ hF.out) (by cases e : d 10 with | false => rfl | true => exact absurd ((p14_ hF.out) e) (by simp [hd]))
      dsimp only
      go_simp
      exact hK.out (ups (ups s 0 (.slice p n1 c1)) 8 (.slice p n1 c1)) b _ ⟨hB, (p1_ hF.out), (fun _ => rfl), (p3_ hF.out), (p4_ hF.out), (p5_ hF.out), (p6_ hF.out), (p7_ hF.out), (p8_ hF.out), (p9_ hF.out), (p10_ hF.out), (fun h => absurd ((p14_ hF.out) h) (by simp [hd])), (fun _ => rfl), (p13_ hF.out), (fun _ => rfl), (p15_ hF.out), (p16_ hF.out), (p17_ hF.out), (q18_ hF.out)⟩
    refine StepsF.cons (o := _) rfl (ws := [1]) (by kernel_rfl) (by decide) (fun d s b w hF hd hw K hK => ?_) ?_
    · have hB : Below W0.heap.size W0 w := (p0_ hF.out)
      have e1 : s 8 = .slice p n1 c1 := (p2_ hF.out) (hw 1 (by decide))
      dsimp only
      go_simp
      exact hK.out (ups (ups s 8 (.slice p n1 c1)) 9 (.int .i64 ((n1 : Nat) : Int))) b _ ⟨hB, (p1_ hF.out), (fun _ => rfl), (fun _ => rfl), (p4_ hF.out), (p5_ hF.out), (p6_ hF.out), (p7_ hF.out), (p8_ hF.out), (p9_ hF.out), (p10_ hF.out), (p11_ hF.out), (p12_ hF.out), (p13_ hF.out), (p14_ hF.out), (p15_ hF.out), (p16_ hF.out), (p17_ hF.out), (q18_ hF.out)⟩
    refine StepsF.cons (o := _) rfl (ws := [2]) (by kernel_rfl) (by decide) (fun d s b w hF hd hw K hK => ?_) ?_
    · have hB : Below W0.heap.size W0 w := (p0_ hF.out)
      have e2 : s 9 = .int .i64 ((n1 : Nat) : Int) := (p3_ hF.out) (hw 2 (by decide))
      dsimp only
      go_simp
      rw [E1.out]
      exact hK.out (ups (ups s 9 (.int .i64 ((n1 : Nat) : Int))) 10 (.int .i64 ((T1 : Nat) : Int))) b _ ⟨hB, (p1_ hF.out), (p2_ hF.out), (fun _ => rfl), (fun _ => rfl), (p5_ hF.out), (p6_ hF.out), (p7_ hF.out), (p8_ hF.out), (p9_ hF.out), (p10_ hF.out), (p11_ hF.out), (p12_ hF.out), (p13_ hF.out), (p14_ hF.out), (p15_ hF.out), (p16_ hF.out), (p17_ hF.out), (q18_ hF.out)⟩
    refine StepsF.cons (o := _) rfl (ws := [0, 3]) (by kernel_rfl) (by decide) (fun d s b w hF hd hw K hK => ?_) ?_
    · have hB : Below W0.heap.size W0 w := (p0_ hF.out)
      have e0 : s 7 = .slice p n1 c1 := (p1_ hF.out) (hw 0 (by decide))
      have e3 : s 10 = .int .i64 ((T1 : Nat) : Int) := (p4_ hF.out) (hw 3 (by decide))
      dsimp only
      go_simp
      exact hK.out (ups (ups (ups s 7 (.slice p n1 c1)) 10 (.int .i64 ((T1 : Nat) : Int))) 11 (.slice p T1 c1)) b _ ⟨hB, (fun _ => rfl), (p2_ hF.out), (p3_ hF.out), (fun _ => rfl), (fun _ => rfl), (p6_ hF.out), (p7_ hF.out), (p8_ hF.out), (p9_ hF.out), (p10_ hF.out), (p11_ hF.out), (p12_ hF.out), (p13_ hF.out), (p14_ hF.out), (p15_ hF.out), (p16_ hF.out), (p17_ hF.out), (q18_ hF.out)⟩
    refine StepsF.cons (o := _) rfl (ws := []) (by kernel_rfl) (by decide) (fun d s b w hF hd hw K hK => ?_) ?_
    · have hB : Below W0.heap.size W0 w := (p0_ hF.out)
      have e11 : s 1 = .slice q n2 c2 := (p16_ hF.out) (by cases e : d 11 with | false => rfl | true => exact absurd ((p17_ hF.out) e) (by simp [hd]))
      dsimp only
      go_simp
      exact hK.out (ups (ups s 1 (.slice q n2 c2)) 12 (.slice q n2 c2)) b _ ⟨hB, (p1_ hF.out), (p2_ hF.out), (p3_ hF.out), (p4_ hF.out), (p5_ hF.out), (fun _ => rfl), (p7_ hF.out), (p8_ hF.out), (p9_ hF.out), (p10_ hF.out), (p11_ hF.out), (p12_ hF.out), (p13_ hF.out), (p14_ hF.out), (fun h => absurd ((p17_ hF.out) h) (by simp [hd])), (fun _ => rfl), (fun _ => rfl), (q18_ hF.out)⟩
    refine StepsF.cons (o := _) rfl (ws := []) (by kernel_rfl) (by decide) (fun d s b w hF hd hw K hK => ?_) ?_
    · have hB : Below W0.heap.size W0 w := (p0_ hF.out)
      have e11 : s 1 = .slice q n2 c2 := (p16_ hF.out) (by cases e : d 11 with | false => rfl | true => exact absurd ((q18_ hF.out) e) (by simp [hd]))
      dsimp only
      go_simp
      exact hK.out (ups (ups s 1 (.slice q n2 c2)) 13 (.slice q n2 c2)) b _ ⟨hB, (p1_ hF.out), (p2_ hF.out), (p3_ hF.out), (p4_ hF.out), (p5_ hF.out), (p6_ hF.out), (fun _ => rfl), (p8_ hF.out), (p9_ hF.out), (p10_ hF.out), (p11_ hF.out), (p12_ hF.out), (p13_ hF.out), (p14_ hF.out), (fun h => absurd ((q18_ hF.out) h) (by simp [hd])), (fun _ => rfl), (p17_ hF.out), (fun _ => rfl)⟩
    refine StepsF.cons (o := _) rfl (ws := [6]) (by kernel_rfl) (by decide) (fun d s b w hF hd hw K hK => ?_) ?_
    · have hB : Below W0.heap.size W0 w := (p0_ hF.out)
      have e6 : s 13 = .slice q n2 c2 := (p7_ hF.out) (hw 6 (by decide))
      dsimp only
      go_simp
      exact hK.out (ups (ups s 13 (.slice q n2 c2)) 14 (.int .i64 ((n2 : Nat) : Int))) b _ ⟨hB, (p1_ hF.out), (p2_ hF.out), (p3_ hF.out), (p4_ hF.out), (p5_ hF.out), (p6_ hF.out), (fun _ => rfl), (fun _ => rfl), (p9_ hF.out), (p10_ hF.out), (p11_ hF.out), (p12_ hF.out), (p13_ hF.out), (p14_ hF.out), (p15_ hF.out), (p16_ hF.out), (p17_ hF.out), (q18_ hF.out)⟩
    refine StepsF.cons (o := _) rfl (ws := [7]) (by kernel_rfl) (by decide) (fun d s b w hF hd hw K hK => ?_) ?_
    · have hB : Below W0.heap.size W0 w := (p0_ hF.out)
      have e7 : s 14 = .int .i64 ((n2 : Nat) : Int) := (p8_ hF.out) (hw 7 (by decide))
      dsimp only
      go_simp
      rw [E2.out]
      exact hK.out (ups (ups s 14 (.int .i64 ((n2 : Nat) : Int))) 15 (.int .i64 ((T2 : Nat) : Int))) b _ ⟨hB, (p1_ hF.out), (p2_ hF.out), (p3_ hF.out), (p4_ hF.out), (p5_ hF.out), (p6_ hF.out), (p7_ hF.out), (fun _ => rfl), (fun _ => rfl), (p10_ hF.out), (p11_ hF.out), (p12_ hF.out), (p13_ hF.out), (p14_ hF.out), (p15_ hF.out), (p16_ hF.out), (p17_ hF.out), (q18_ hF.out)⟩
    refine StepsF.cons (o := _) rfl (ws := [5, 8]) (by kernel_rfl) (by decide) (fun d s b w hF hd hw K hK => ?_) ?_
    · have hB : Below W0.heap.size W0 w := (p0_ hF.out)
      have e5 : s 12 = .slice q n2 c2 := (p6_ hF.out) (hw 5 (by decide))
      have e8 : s 15 = .int .i64 ((T2 : Nat) : Int) := (p9_ hF.out) (hw 8 (by decide))
      dsimp only
      go_simp
      exact hK.out (ups (ups (ups s 12 (.slice q n2 c2)) 15 (.int .i64 ((T2 : Nat) : Int))) 16 (.slice q T2 c2)) b _ ⟨hB, (p1_ hF.out), (p2_ hF.out), (p3_ hF.out), (p4_ hF.out), (p5_ hF.out), (fun _ => rfl), (p7_ hF.out), (p8_ hF.out), (fun _ => rfl), (fun _ => rfl), (p11_ hF.out), (p12_ hF.out), (p13_ hF.out), (p14_ hF.out), (p15_ hF.out), (p16_ hF.out), (p17_ hF.out), (q18_ hF.out)⟩
    refine StepsF.cons (o := _) rfl (ws := [4, 0, 1, 2, 3, 4]) (by kernel_rfl) (by decide) (fun d s b w hF hd hw K hK => ?_) ?_
    · have hB : Below W0.heap.size W0 w := (p0_ hF.out)
      have e0 : s 7 = .slice p n1 c1 := (p1_ hF.out) (hw 0 (by decide))
      have e1 : s 8 = .slice p n1 c1 := (p2_ hF.out) (hw 1 (by decide))
      have e2 : s 9 = .int .i64 ((n1 : Nat) : Int) := (p3_ hF.out) (hw 2 (by decide))
      have e3 : s 10 = .int .i64 ((T1 : Nat) : Int) := (p4_ hF.out) (hw 3 (by decide))
      have e4 : s 11 = .slice p T1 c1 := (p5_ hF.out) (hw 4 (by decide))
      dsimp only
      go_simp
      exact hK.out (ups (ups (ups (ups (ups (ups s 7 (.slice p n1 c1)) 8 (.slice p n1 c1)) 9 (.int .i64 ((n1 : Nat) : Int))) 10 (.int .i64 ((T1 : Nat) : Int))) 11 (.slice p T1 c1)) 0 (.slice p T1 c1)) b _ ⟨hB, (fun _ => rfl), (fun _ => rfl), (fun _ => rfl), (fun _ => rfl), (fun _ => rfl), (p6_ hF.out), (p7_ hF.out), (p8_ hF.out), (p9_ hF.out), (p10_ hF.out), (fun _ => rfl), (fun h => nomatch h), (fun _ => hw 0 (by decide)), (fun _ => hw 1 (by decide)), (p15_ hF.out), (p16_ hF.out), (p17_ hF.out), (q18_ hF.out)⟩
    refine StepsF.cons (o := _) rfl (ws := [9, 10, 0, 1, 2, 3, 4, 5, 6, 7, 8, 9, 10]) (by kernel_rfl) (by decide) (fun d s b w hF hd hw K hK => ?_) ?_
    · have hB : Below W0.heap.size W0 w := (p0_ hF.out)
      have e0 : s 7 = .slice p n1 c1 := (p1_ hF.out) (hw 0 (by decide))
      have e1 : s 8 = .slice p n1 c1 := (p2_ hF.out) (hw 1 (by decide))
      have e2 : s 9 = .int .i64 ((n1 : Nat) : Int) := (p3_ hF.out) (hw 2 (by decide))
      have e3 : s 10 = .int .i64 ((T1 : Nat) : Int) := (p4_ hF.out) (hw 3 (by decide))
      have e4 : s 11 = .slice p T1 c1 := (p5_ hF.out) (hw 4 (by decide))
      have e5 : s 12 = .slice q n2 c2 := (p6_ hF.out) (hw 5 (by decide))
      have e6 : s 13 = .slice q n2 c2 := (p7_ hF.out) (hw 6 (by decide))
      have e7 : s 14 = .int .i64 ((n2 : Nat) : Int) := (p8_ hF.out) (hw 7 (by decide))
      have e8 : s 15 = .int .i64 ((T2 : Nat) : Int) := (p9_ hF.out) (hw 8 (by decide))
      have e9 : s 16 = .slice q T2 c2 := (p10_ hF.out) (hw 9 (by decide))
      have e10 : s 0 = .slice p T1 c1 := (p11_ hF.out) (hw 10 (by decide))
      dsimp only
      go_simp
      exact hK.out (ups (ups (ups (ups (ups (ups (ups (ups (ups (ups (ups (ups s 7 (.slice p n1 c1)) 8 (.slice p n1 c1)) 9 (.int .i64 ((n1 : Nat) : Int))) 10 (.int .i64 ((T1 : Nat) : Int))) 11 (.slice p T1 c1)) 12 (.slice q n2 c2)) 13 (.slice q n2 c2)) 14 (.int .i64 ((n2 : Nat) : Int))) 15 (.int .i64 ((T2 : Nat) : Int))) 16 (.slice q T2 c2)) 0 (.slice p T1 c1)) 1 (.slice q T2 c2)) b _ ⟨hB, (fun _ => rfl), (fun _ => rfl), (fun _ => rfl), (fun _ => rfl), (fun _ => rfl), (fun _ => rfl), (fun _ => rfl), (fun _ => rfl), (fun _ => rfl), (fun _ => rfl), (fun _ => rfl), (fun h => nomatch ((hw 10 (by decide)).symm.trans h)), (p13_ hF.out), (p14_ hF.out), (fun _ => rfl), (fun h => nomatch h), (fun _ => hw 5 (by decide)), (fun _ => hw 6 (by decide))⟩
    exact StepsF.nil
  intro d s b y5 hF hall
  replace hF := Lib.hid hF
  have hB : Below W0.heap.size W0 y5 := (p0_ hF.out)
  try dsimp only
  have e0 : s 7 = .slice p n1 c1 := (p1_ hF.out) (hall 0 (by decide))
  have e1 : s 8 = .slice p n1 c1 := (p2_ hF.out) (hall 1 (by decide))
  have e2 : s 9 = .int .i64 ((n1 : Nat) : Int) := (p3_ hF.out) (hall 2 (by decide))
  have e3 : s 10 = .int .i64 ((T1 : Nat) : Int) := (p4_ hF.out) (hall 3 (by decide))
  have e4 : s 11 = .slice p T1 c1 := (p5_ hF.out) (hall 4 (by decide))
  have e5 : s 12 = .slice q n2 c2 := (p6_ hF.out) (hall 5 (by decide))
  have e6 : s 13 = .slice q n2 c2 := (p7_ hF.out) (hall 6 (by decide))
  have e7 : s 14 = .int .i64 ((n2 : Nat) : Int) := (p8_ hF.out) (hall 7 (by decide))
  have e8 : s 15 = .int .i64 ((T2 : Nat) : Int) := (p9_ hF.out) (hall 8 (by decide))
  have e9 : s 16 = .slice q T2 c2 := (p10_ hF.out) (hall 9 (by decide))
  have e10 : s 0 = .slice p T1 c1 := (p11_ hF.out) (hall 10 (by decide))
  have e11 : s 1 = .slice q T2 c2 := (p15_ hF.out) (hall 11 (by decide))
  rw [e0, e1, e2, e3, e4, e5, e6, e7, e8, e9, e10, e11]
  clear hall hF e0 e1 e2 e3 e4 e5 e6 e7 e8 e9 e10 e11
  clear d s b
  have HV1 := Lib.hid (HV.out.later hB)
  have hB1 := Below.go hB0 hB
  clear HV hB0 hB
  go_upto_region 2 with fail
  refine wp_region_fun 28 (by kernel_rfl) (by kernel_rfl) rfl (fun s b => ⟨#[.slice p T1 c1, .slice q T2 c2, (.agg #[.int .i64 x, .int .i64 y, .int .i64 z]), undef, undef, .pointer (some ⟨V, 0, none⟩), s 6, .slice p n1 c1, .slice p n1 c1, .int .i64 ((n1 : Nat) : Int), .int .i64 ((T1 : Nat) : Int), .slice p T1 c1, .slice q n2 c2, .slice q n2 c2, .int .i64 ((n2 : Nat) : Int), .int .i64 ((T2 : Nat) : Int), .slice q T2 c2, s 17, s 18, s 19, s 20, s 21, s 22, s 23, s 24, s 25, s 26, s 27, s 28, s 29, s 30, s 31, s 32, s 33, s 34, s 35, s 36, s 37, s 38, s 39, s 40, s 41, s 42, s 43], []⟩) (fun d s b w => (Below y5.heap.size y5 w) ∧ (d 0 = true → s 17 = (.agg #[.int .i64 4294967296, .int .i64 0, .int .i64 0, .int .i64 0, .int .i64 4294967296, .int .i64 0, .int .i64 0, .int .i64 0, .int .i64 4294967296, .int .i64 0, .int .i64 0, .int .i64 0])) ∧ (d 1 = true → s 18 = (.agg #[.int .i64 4294967296, .int .i64 0, .int .i64 0, .int .i64 0, .int .i64 4294967296, .int .i64 0, .int .i64 0, .int .i64 0, .int .i64 4294967296, .int .i64 0, .int .i64 0, .int .i64 0])) ∧ (d 2 = true → s 19 = .bool true) ∧ (d 3 = true → s 20 = .bool true) ∧ (d 4 = true → s 21 = (.agg #[.int .i64 x, .int .i64 y, .int .i64 z])) ∧ (d 5 = true → s 22 = (.agg #[.int .i64 4294967296, .int .i64 0, .int .i64 0, .int .i64 0, .int .i64 4294967296, .int .i64 0, .int .i64 0, .int .i64 0, .int .i64 4294967296, .int .i64 x, .int .i64 y, .int .i64 z])) ∧ (d 6 = true → s 23 = (.agg #[.int .i64 x, .int .i64 y, .int .i64 z])) ∧ (d 7 = true → s 24 = (.agg #[.int .i64 4294967296, .int .i64 0, .int .i64 0, .int .i64 0, .int .i64 4294967296, .int .i64 0, .int .i64 0, .int .i64 0, .int .i64 4294967296, .int .i64 x, .int .i64 y, .int .i64 z])) ∧ (d 8 = true → s 25 = .bool true) ∧ (d 9 = true → s 26 = .bool true) ∧ (d 10 = true → s 27 = .bool true) ∧ (d 11 = true → s 28 = .slice p T1 c1) ∧ (d 12 = true → s 29 = (.agg #[.int .i64 RS.m0, .int .i64 RS.m1, .int .i64 RS.m2, .int .i64 RS.m3, .int .i64 RS.m4, .int .i64 RS.m5, .int .i64 RS.m6, .int .i64 RS.m7, .int .i64 RS.m8, .int .i64 RS.tx, .int .i64 RS.ty, .int .i64 RS.tz])) ∧ (d 13 = true → s 30 = .slice p T1 c1) ∧ (d 14 = true → s 31 = (.agg #[.int .i64 RS.m0, .int .i64 RS.m1, .int .i64 RS.m2, .int .i64 RS.m3, .int .i64 RS.m4, .int .i64 RS.m5, .int .i64 RS.m6, .int .i64 RS.m7, .int .i64 RS.m8, .int .i64 RS.tx, .int .i64 RS.ty, .int .i64 RS.tz])) ∧ (d 15 = true → s 32 = .bool true) ∧ (d 16 = true → s 33 = .bool true) ∧ (d 17 = true → s 34 = .bool true) ∧ (d 18 = true → s 35 = .slice q T2 c2) ∧ (d 19 = true → s 36 = (.agg #[.int .i64 RX.m0, .int .i64 RX.m1, .int .i64 RX.m2, .int .i64 RX.m3, .int .i64 RX.m4, .int .i64 RX.m5, .int .i64 RX.m6, .int .i64 RX.m7, .int .i64 RX.m8, .int .i64 RX.tx, .int .i64 RX.ty, .int .i64 RX.tz])) ∧ (d 20 = true → s 37 = .slice q T2 c2) ∧ (d 21 = true → s 38 = (.agg #[.int .i64 RX.m0, .int .i64 RX.m1, .int .i64 RX.m2, .int .i64 RX.m3, .int .i64 RX.m4, .int .i64 RX.m5, .int .i64 RX.m6, .int .i64 RX.m7, .int .i64 RX.m8, .int .i64 RX.tx, .int .i64 RX.ty, .int .i64 RX.tz])) ∧ (d 22 = true → s 39 = .bool true) ∧ (d 23 = true → s 40 = .bool true) ∧ (d 24 = true → s 41 = .bool true) ∧ (d 25 = true → s 42 = .bool true) ∧ (d 26 = true → s 43 = .bool true) ∧ (d 27 = true → s 6 = .bool true)) rfl ?h0y6 (?sty6 : StepsF _ _ _ _ 28 _ _ [0, 1, 2, 3, 4, 5, 6, 7, 8, 9, 10, 11, 12, 13, 14, 15, 16, 17, 18, 19, 20, 21, 22, 23, 24, 25, 26, 27]) ?dny6
  case h0y6 => exact ⟨Below.drew (Below.refl _ _), (fun h => nomatch h), (fun h => nomatch h), (fun h => nomatch h), (fun h => nomatch h), (fun h => nomatch h), (fun h => nomatch h), (fun h => nomatch h), (fun h => nomatch h), (fun h => nomatch h), (fun h => nomatch h), (fun h => nomatch h), (fun h => nomatch h), (fun h => nomatch h), (fun h => nomatch h), (fun h => nomatch h), (fun h => nomatch h), (fun h => nomatch h), (fun h => nomatch h), (fun h => nomatch h), (fun h => nomatch h), (fun h => nomatch h), (fun h => nomatch h), (fun h => nomatch h), (fun h => nomatch h), (fun h => nomatch h), (fun h => nomatch h), (fun h => nomatch h), (fun h => nomatch h)⟩
  case sty6 =>
    refine StepsF.cons (o := _) rfl (ws := []) (by kernel_rfl) (by decide) (fun d s b w hF hd hw K hK => ?_) ?_
    · have hB : Below y5.heap.size y5 w := (p0_ hF.out)
      dsimp only
      go_simp
      go_at_call 47
      refine (k1.out _).mono ?_
      rintro e w1 ⟨rfl, hb⟩
      exact hK.out (ups s 17 ((.agg #[.int .i64 4294967296, .int .i64 0, .int .i64 0, .int .i64 0, .int .i64 4294967296, .int .i64 0, .int .i64 0, .int .i64 0, .int .i64 4294967296, .int .i64 0, .int .i64 0, .int .i64 0]))) b _ ⟨(Below.go hB hb), (fun _ => rfl), (p2_ hF.out), (p3_ hF.out), (p4_ hF.out), (p5_ hF.out), (p6_ hF.out), (p7_ hF.out), (p8_ hF.out), (p9_ hF.out), (p10_ hF.out), (p11_ hF.out), (p12_ hF.out), (p13_ hF.out), (p14_ hF.out), (p15_ hF.out), (p16_ hF.out), (p17_ hF.out), (p18_ hF.out), (p19_ hF.out), (p20_ hF.out), (p21_ hF.out), (p22_ hF.out), (p23_ hF.out), (p24_ hF.out), (p25_ hF.out), (p26_ hF.out), (p27_ hF.out), (q28_ hF.out)⟩
    refine StepsF.cons (o := _) rfl (ws := [0]) (by kernel_rfl) (by decide) (fun d s b w hF hd hw K hK => ?_) ?_
    · have hB : Below y5.heap.size y5 w := (p0_ hF.out)
      have e0 : s 17 = (.agg #[.int .i64 4294967296, .int .i64 0, .int .i64 0, .int .i64 0, .int .i64 4294967296, .int .i64 0, .int .i64 0, .int .i64 0, .int .i64 4294967296, .int .i64 0, .int .i64 0, .int .i64 0]) := (p1_ hF.out) (hw 0 (by decide))
      dsimp only
      go_simp
      go_at_call 48
      refine (k2.out _).mono ?_
      rintro e w1 ⟨rfl, hb⟩
      exact hK.out (ups (ups s 17 ((.agg #[.int .i64 4294967296, .int .i64 0, .int .i64 0, .int .i64 0, .int .i64 4294967296, .int .i64 0, .int .i64 0, .int .i64 0, .int .i64 4294967296, .int .i64 0, .int .i64 0, .int .i64 0]))) 18 ((.agg #[.int .i64 4294967296, .int .i64 0, .int .i64 0, .int .i64 0, .int .i64 4294967296, .int .i64 0, .int .i64 0, .int .i64 0, .int .i64 4294967296, .int .i64 0, .int .i64 0, .int .i64 0]))) b _ ⟨(Below.go hB hb), (fun _ => rfl), (fun _ => rfl), (p3_ hF.out), (p4_ hF.out), (p5_ hF.out), (p6_ hF.out), (p7_ hF.out), (p8_ hF.out), (p9_ hF.out), (p10_ hF.out), (p11_ hF.out), (p12_ hF.out), (p13_ hF.out), (p14_ hF.out), (p15_ hF.out), (p16_ hF.out), (p17_ hF.out), (p18_ hF.out), (p19_ hF.out), (p20_ hF.out), (p21_ hF.out), (p22_ hF.out), (p23_ hF.out), (p24_ hF.out), (p25_ hF.out), (p26_ hF.out), (p27_ hF.out), (q28_ hF.out)⟩
    refine StepsF.cons (o := _) rfl (ws := [0, 1]) (by kernel_rfl) (by decide) (fun d s b w hF hd hw K hK => ?_) ?_
    · have hB : Below y5.heap.size y5 w := (p0_ hF.out)
      have e0 : s 17 = (.agg #[.int .i64 4294967296, .int .i64 0, .int .i64 0, .int .i64 0, .int .i64 4294967296, .int .i64 0, .int .i64 0, .int .i64 0, .int .i64 4294967296, .int .i64 0, .int .i64 0, .int .i64 0]) := (p1_ hF.out) (hw 0 (by decide))
      have e1 : s 18 = (.agg #[.int .i64 4294967296, .int .i64 0, .int .i64 0, .int .i64 0, .int .i64 4294967296, .int .i64 0, .int .i64 0, .int .i64 0, .int .i64 4294967296, .int .i64 0, .int .i64 0, .int .i64 0]) := (p2_ hF.out) (hw 1 (by decide))
      dsimp only
      go_simp
      exact hK.out (ups (ups (ups s 17 ((.agg #[.int .i64 4294967296, .int .i64 0, .int .i64 0, .int .i64 0, .int .i64 4294967296, .int .i64 0, .int .i64 0, .int .i64 0, .int .i64 4294967296, .int .i64 0, .int .i64 0, .int .i64 0]))) 18 ((.agg #[.int .i64 4294967296, .int .i64 0, .int .i64 0, .int .i64 0, .int .i64 4294967296, .int .i64 0, .int .i64 0, .int .i64 0, .int .i64 4294967296, .int .i64 0, .int .i64 0, .int .i64 0]))) 19 (.bool true)) b _ ⟨hB, (fun _ => rfl), (fun _ => rfl), (fun _ => rfl), (p4_ hF.out), (p5_ hF.out), (p6_ hF.out), (p7_ hF.out), (p8_ hF.out), (p9_ hF.out), (p10_ hF.out), (p11_ hF.out), (p12_ hF.out), (p13_ hF.out), (p14_ hF.out), (p15_ hF.out), (p16_ hF.out), (p17_ hF.out), (p18_ hF.out), (p19_ hF.out), (p20_ hF.out), (p21_ hF.out), (p22_ hF.out), (p23_ hF.out), (p24_ hF.out), (p25_ hF.out), (p26_ hF.out), (p27_ hF.out), (q28_ hF.out)⟩
    refine StepsF.cons (o := _) rfl (ws := [2, 1]) (by kernel_rfl) (by decide) (fun d s b w hF hd hw K hK => ?_) ?_
    · have hB : Below y5.heap.size y5 w := (p0_ hF.out)
      have e1 : s 18 = (.agg #[.int .i64 4294967296, .int .i64 0, .int .i64 0, .int .i64 0, .int .i64 4294967296, .int .i64 0, .int .i64 0, .int .i64 0, .int .i64 4294967296, .int .i64 0, .int .i64 0, .int .i64 0]) := (p2_ hF.out) (hw 1 (by decide))
      have e2 : s 19 = .bool true := (p3_ hF.out) (hw 2 (by decide))
      dsimp only
      go_simp
      exact hK.out (ups (ups (ups s 18 ((.agg #[.int .i64 4294967296, .int .i64 0, .int .i64 0, .int .i64 0, .int .i64 4294967296, .int .i64 0, .int .i64 0, .int .i64 0, .int .i64 4294967296, .int .i64 0, .int .i64 0, .int .i64 0]))) 19 (.bool true)) 20 (.bool true)) b _ ⟨hB, (p1_ hF.out), (fun _ => rfl), (fun _ => rfl), (fun _ => rfl), (p5_ hF.out), (p6_ hF.out), (p7_ hF.out), (p8_ hF.out), (p9_ hF.out), (p10_ hF.out), (p11_ hF.out), (p12_ hF.out), (p13_ hF.out), (p14_ hF.out), (p15_ hF.out), (p16_ hF.out), (p17_ hF.out), (p18_ hF.out), (p19_ hF.out), (p20_ hF.out), (p21_ hF.out), (p22_ hF.out), (p23_ hF.out), (p24_ hF.out), (p25_ hF.out), (p26_ hF.out), (p27_ hF.out), (q28_ hF.out)⟩
    refine StepsF.cons (o := _) rfl (ws := [3]) (by kernel_rfl) (by decide) (fun d s b w hF hd hw K hK => ?_) ?_
    · have hB : Below y5.heap.size y5 w := (p0_ hF.out)
      have e3 : s 20 = .bool true := (p4_ hF.out) (hw 3 (by decide))
      dsimp only
      have ov := HV1.out.later hB
      have v0 := ov.at 0 _ rfl
      have v1 := ov.at 1 _ rfl
      have v2 := ov.at 2 _ rfl
      clear ov
      go_simp
      exact hK.out (ups (ups s 20 (.bool true)) 21 ((.agg #[.int .i64 x, .int .i64 y, .int .i64 z]))) b _ ⟨hB, (p1_ hF.out), (p2_ hF.out), (p3_ hF.out), (fun _ => rfl), (fun _ => rfl), (p6_ hF.out), (p7_ hF.out), (p8_ hF.out), (p9_ hF.out), (p10_ hF.out), (p11_ hF.out), (p12_ hF.out), (p13_ hF.out), (p14_ hF.out), (p15_ hF.out), (p16_ hF.out), (p17_ hF.out), (p18_ hF.out), (p19_ hF.out), (p20_ hF.out), (p21_ hF.out), (p22_ hF.out), (p23_ hF.out), (p24_ hF.out), (p25_ hF.out), (p26_ hF.out), (p27_ hF.out), (q28_ hF.out)⟩
    refine StepsF.cons (o := _) rfl (ws := [4, 3, 3]) (by kernel_rfl) (by decide) (fun d s b w hF hd hw K hK => ?_) ?_
    · have hB : Below y5.heap.size y5 w := (p0_ hF.out)
      have e3 : s 20 = .bool true := (p4_ hF.out) (hw 3 (by decide))
      have e4 : s 21 = (.agg #[.int .i64 x, .int .i64 y, .int .i64 z]) := (p5_ hF.out) (hw 4 (by decide))
      dsimp only
      go_simp
      go_at_call 49
      refine (k3.out _).mono ?_
      rintro e w1 ⟨rfl, hb⟩
      exact hK.out (ups (ups (ups s 20 (.bool true)) 21 ((.agg #[.int .i64 x, .int .i64 y, .int .i64 z]))) 22 ((.agg #[.int .i64 4294967296, .int .i64 0, .int .i64 0, .int .i64 0, .int .i64 4294967296, .int .i64 0, .int .i64 0, .int .i64 0, .int .i64 4294967296, .int .i64 x, .int .i64 y, .int .i64 z]))) b _ ⟨(Below.go hB hb), (p1_ hF.out), (p2_ hF.out), (p3_ hF.out), (fun _ => rfl), (fun _ => rfl), (fun _ => rfl), (p7_ hF.out), (p8_ hF.out), (p9_ hF.out), (p10_ hF.out), (p11_ hF.out), (p12_ hF.out), (p13_ hF.out), (p14_ hF.out), (p15_ hF.out), (p16_ hF.out), (p17_ hF.out), (p18_ hF.out), (p19_ hF.out), (p20_ hF.out), (p21_ hF.out), (p22_ hF.out), (p23_ hF.out), (p24_ hF.out), (p25_ hF.out), (p26_ hF.out), (p27_ hF.out), (q28_ hF.out)⟩
    refine StepsF.cons (o := _) rfl (ws := [3]) (by kernel_rfl) (by decide) (fun d s b w hF hd hw K hK => ?_) ?_
    · have hB : Below y5.heap.size y5 w := (p0_ hF.out)
      have e3 : s 20 = .bool true := (p4_ hF.out) (hw 3 (by decide))
      dsimp only
      have ov := HV1.out.later hB
      have v0 := ov.at 0 _ rfl
      have v1 := ov.at 1 _ rfl
      have v2 := ov.at 2 _ rfl
      clear ov
      go_simp
      exact hK.out (ups (ups s 20 (.bool true)) 23 ((.agg #[.int .i64 x, .int .i64 y, .int .i64 z]))) b _ ⟨hB, (p1_ hF.out), (p2_ hF.out), (p3_ hF.out), (fun _ => rfl), (p5_ hF.out), (p6_ hF.out), (fun _ => rfl), (p8_ hF.out), (p9_ hF.out), (p10_ hF.out), (p11_ hF.out), (p12_ hF.out), (p13_ hF.out), (p14_ hF.out), (p15_ hF.out), (p16_ hF.out), (p17_ hF.out), (p18_ hF.out), (p19_ hF.out), (p20_ hF.out), (p21_ hF.out), (p22_ hF.out), (p23_ hF.out), (p24_ hF.out), (p25_ hF.out), (p26_ hF.out), (p27_ hF.out), (q28_ hF.out)⟩
    refine StepsF.cons (o := _) rfl (ws := [6, 5, 3]) (by kernel_rfl) (by decide) (fun d s b w hF hd hw K hK => ?_) ?_
    · have hB : Below y5.heap.size y5 w := (p0_ hF.out)
      have e3 : s 20 = .bool true := (p4_ hF.out) (hw 3 (by decide))
      have e5 : s 22 = (.agg #[.int .i64 4294967296, .int .i64 0, .int .i64 0, .int .i64 0, .int .i64 4294967296, .int .i64 0, .int .i64 0, .int .i64 0, .int .i64 4294967296, .int .i64 x, .int .i64 y, .int .i64 z]) := (p6_ hF.out) (hw 5 (by decide))
      have e6 : s 23 = (.agg #[.int .i64 x, .int .i64 y, .int .i64 z]) := (p7_ hF.out) (hw 6 (by decide))
      dsimp only
      go_simp
      go_at_call 50
      refine (k4.out _).mono ?_
      rintro e w1 ⟨rfl, hb⟩
      exact hK.out (ups (ups (ups (ups s 20 (.bool true)) 22 ((.agg #[.int .i64 4294967296, .int .i64 0, .int .i64 0, .int .i64 0, .int .i64 4294967296, .int .i64 0, .int .i64 0, .int .i64 0, .int .i64 4294967296, .int .i64 x, .int .i64 y, .int .i64 z]))) 23 ((.agg #[.int .i64 x, .int .i64 y, .int .i64 z]))) 24 ((.agg #[.int .i64 4294967296, .int .i64 0, .int .i64 0, .int .i64 0, .int .i64 4294967296, .int .i64 0, .int .i64 0, .int .i64 0, .int .i64 4294967296, .int .i64 x, .int .i64 y, .int .i64 z]))) b _ ⟨(Below.go hB hb), (p1_ hF.out), (p2_ hF.out), (p3_ hF.out), (fun _ => rfl), (p5_ hF.out), (fun _ => rfl), (fun _ => rfl), (fun _ => rfl), (p9_ hF.out), (p10_ hF.out), (p11_ hF.out), (p12_ hF.out), (p13_ hF.out), (p14_ hF.out), (p15_ hF.out), (p16_ hF.out), (p17_ hF.out), (p18_ hF.out), (p19_ hF.out), (p20_ hF.out), (p21_ hF.out), (p22_ hF.out), (p23_ hF.out), (p24_ hF.out), (p25_ hF.out), (p26_ hF.out), (p27_ hF.out), (q28_ hF.out)⟩
    refine StepsF.cons (o := _) rfl (ws := [5, 7, 3]) (by kernel_rfl) (by decide) (fun d s b w hF hd hw K hK => ?_) ?_
    · have hB : Below y5.heap.size y5 w := (p0_ hF.out)
      have e3 : s 20 = .bool true := (p4_ hF.out) (hw 3 (by decide))
      have e5 : s 22 = (.agg #[.int .i64 4294967296, .int .i64 0, .int .i64 0, .int .i64 0, .int .i64 4294967296, .int .i64 0, .int .i64 0, .int .i64 0, .int .i64 4294967296, .int .i64 x, .int .i64 y, .int .i64 z]) := (p6_ hF.out) (hw 5 (by decide))
      have e7 : s 24 = (.agg #[.int .i64 4294967296, .int .i64 0, .int .i64 0, .int .i64 0, .int .i64 4294967296, .int .i64 0, .int .i64 0, .int .i64 0, .int .i64 4294967296, .int .i64 x, .int .i64 y, .int .i64 z]) := (p8_ hF.out) (hw 7 (by decide))
      dsimp only
      go_simp
      exact hK.out (ups (ups (ups (ups s 20 (.bool true)) 22 ((.agg #[.int .i64 4294967296, .int .i64 0, .int .i64 0, .int .i64 0, .int .i64 4294967296, .int .i64 0, .int .i64 0, .int .i64 0, .int .i64 4294967296, .int .i64 x, .int .i64 y, .int .i64 z]))) 24 ((.agg #[.int .i64 4294967296, .int .i64 0, .int .i64 0, .int .i64 0, .int .i64 4294967296, .int .i64 0, .int .i64 0, .int .i64 0, .int .i64 4294967296, .int .i64 x, .int .i64 y, .int .i64 z]))) 25 (.bool true)) b _ ⟨hB, (p1_ hF.out), (p2_ hF.out), (p3_ hF.out), (fun _ => rfl), (p5_ hF.out), (fun _ => rfl), (p7_ hF.out), (fun _ => rfl), (fun _ => rfl), (p10_ hF.out), (p11_ hF.out), (p12_ hF.out), (p13_ hF.out), (p14_ hF.out), (p15_ hF.out), (p16_ hF.out), (p17_ hF.out), (p18_ hF.out), (p19_ hF.out), (p20_ hF.out), (p21_ hF.out), (p22_ hF.out), (p23_ hF.out), (p24_ hF.out), (p25_ hF.out), (p26_ hF.out), (p27_ hF.out), (q28_ hF.out)⟩
    refine StepsF.cons (o := _) rfl (ws := [3, 8]) (by kernel_rfl) (by decide) (fun d s b w hF hd hw K hK => ?_) ?_
    · have hB : Below y5.heap.size y5 w := (p0_ hF.out)
      have e3 : s 20 = .bool true := (p4_ hF.out) (hw 3 (by decide))
      have e8 : s 25 = .bool true := (p9_ hF.out) (hw 8 (by decide))
      dsimp only
      go_simp
      exact hK.out (ups (ups (ups s 20 (.bool true)) 25 (.bool true)) 26 (.bool true)) b _ ⟨hB, (p1_ hF.out), (p2_ hF.out), (p3_ hF.out), (fun _ => rfl), (p5_ hF.out), (p6_ hF.out), (p7_ hF.out), (p8_ hF.out), (fun _ => rfl), (fun _ => rfl), (p11_ hF.out), (p12_ hF.out), (p13_ hF.out), (p14_ hF.out), (p15_ hF.out), (p16_ hF.out), (p17_ hF.out), (p18_ hF.out), (p19_ hF.out), (p20_ hF.out), (p21_ hF.out), (p22_ hF.out), (p23_ hF.out), (p24_ hF.out), (p25_ hF.out), (p26_ hF.out), (p27_ hF.out), (q28_ hF.out)⟩
    refine StepsF.cons (o := _) rfl (ws := [9, 7]) (by kernel_rfl) (by decide) (fun d s b w hF hd hw K hK => ?_) ?_
    · have hB : Below y5.heap.size y5 w := (p0_ hF.out)
      have e7 : s 24 = (.agg #[.int .i64 4294967296, .int .i64 0, .int .i64 0, .int .i64 0, .int .i64 4294967296, .int .i64 0, .int .i64 0, .int .i64 0, .int .i64 4294967296, .int .i64 x, .int .i64 y, .int .i64 z]) := (p8_ hF.out) (hw 7 (by decide))
      have e9 : s 26 = .bool true := (p10_ hF.out) (hw 9 (by decide))
      dsimp only
      go_simp
      exact hK.out (ups (ups (ups s 24 ((.agg #[.int .i64 4294967296, .int .i64 0, .int .i64 0, .int .i64 0, .int .i64 4294967296, .int .i64 0, .int .i64 0, .int .i64 0, .int .i64 4294967296, .int .i64 x, .int .i64 y, .int .i64 z]))) 26 (.bool true)) 27 (.bool true)) b _ ⟨hB, (p1_ hF.out), (p2_ hF.out), (p3_ hF.out), (p4_ hF.out), (p5_ hF.out), (p6_ hF.out), (p7_ hF.out), (fun _ => rfl), (p9_ hF.out), (fun _ => rfl), (fun _ => rfl), (p12_ hF.out), (p13_ hF.out), (p14_ hF.out), (p15_ hF.out), (p16_ hF.out), (p17_ hF.out), (p18_ hF.out), (p19_ hF.out), (p20_ hF.out), (p21_ hF.out), (p22_ hF.out), (p23_ hF.out), (p24_ hF.out), (p25_ hF.out), (p26_ hF.out), (p27_ hF.out), (q28_ hF.out)⟩
    refine StepsF.cons (o := _) rfl (ws := [10]) (by kernel_rfl) (by decide) (fun d s b w hF hd hw K hK => ?_) ?_
    · have hB : Below y5.heap.size y5 w := (p0_ hF.out)
      have e10 : s 27 = .bool true := (p11_ hF.out) (hw 10 (by decide))
      dsimp only
      go_simp
      exact hK.out (ups (ups s 27 (.bool true)) 28 (.slice p T1 c1)) b _ ⟨hB, (p1_ hF.out), (p2_ hF.out), (p3_ hF.out), (p4_ hF.out), (p5_ hF.out), (p6_ hF.out), (p7_ hF.out), (p8_ hF.out), (p9_ hF.out), (p10_ hF.out), (fun _ => rfl), (fun _ => rfl), (p13_ hF.out), (p14_ hF.out), (p15_ hF.out), (p16_ hF.out), (p17_ hF.out), (p18_ hF.out), (p19_ hF.out), (p20_ hF.out), (p21_ hF.out), (p22_ hF.out), (p23_ hF.out), (p24_ hF.out), (p25_ hF.out), (p26_ hF.out), (p27_ hF.out), (q28_ hF.out)⟩
    refine StepsF.cons (o := _) rfl (ws := [11, 10, 10]) (by kernel_rfl) (by decide) (fun d s b w hF hd hw K hK => ?_) ?_
    · have hB : Below y5.heap.size y5 w := (p0_ hF.out)
      have e10 : s 27 = .bool true := (p11_ hF.out) (hw 10 (by decide))
      have e11 : s 28 = .slice p T1 c1 := (p12_ hF.out) (hw 11 (by decide))
      dsimp only
      go_simp
      go_at_call 51
      refine (k5.out _ (Below.go hB1 hB)).mono ?_
      rintro e w1 ⟨rfl, hb⟩
      exact hK.out (ups (ups (ups s 27 (.bool true)) 28 (.slice p T1 c1)) 29 ((.agg #[.int .i64 RS.m0, .int .i64 RS.m1, .int .i64 RS.m2, .int .i64 RS.m3, .int .i64 RS.m4, .int .i64 RS.m5, .int .i64 RS.m6, .int .i64 RS.m7, .int .i64 RS.m8, .int .i64 RS.tx, .int .i64 RS.ty, .int .i64 RS.tz]))) b _ ⟨(Below.go hB hb), (p1_ hF.out), (p2_ hF.out), (p3_ hF.out), (p4_ hF.out), (p5_ hF.out), (p6_ hF.out), (p7_ hF.out), (p8_ hF.out), (p9_ hF.out), (p10_ hF.out), (fun _ => rfl), (fun _ => rfl), (fun _ => rfl), (p14_ hF.out), (p15_ hF.out), (p16_ hF.out), (p17_ hF.out), (p18_ hF.out), (p19_ hF.out), (p20_ hF.out), (p21_ hF.out), (p22_ hF.out), (p23_ hF.out), (p24_ hF.out), (p25_ hF.out), (p26_ hF.out), (p27_ hF.out), (q28_ hF.out)⟩
    refine StepsF.cons (o := _) rfl (ws := [10]) (by kernel_rfl) (by decide) (fun d s b w hF hd hw K hK => ?_) ?_
    · have hB : Below y5.heap.size y5 w := (p0_ hF.out)
      have e10 : s 27 = .bool true := (p11_ hF.out) (hw 10 (by decide))
      dsimp only
      go_simp
      exact hK.out (ups (ups s 27 (.bool true)) 30 (.slice p T1 c1)) b _ ⟨hB, (p1_ hF.out), (p2_ hF.out), (p3_ hF.out), (p4_ hF.out), (p5_ hF.out), (p6_ hF.out), (p7_ hF.out), (p8_ hF.out), (p9_ hF.out), (p10_ hF.out), (fun _ => rfl), (p12_ hF.out), (p13_ hF.out), (fun _ => rfl), (p15_ hF.out), (p16_ hF.out), (p17_ hF.out), (p18_ hF.out), (p19_ hF.out), (p20_ hF.out), (p21_ hF.out), (p22_ hF.out), (p23_ hF.out), (p24_ hF.out), (p25_ hF.out), (p26_ hF.out), (p27_ hF.out), (q28_ hF.out)⟩
    refine StepsF.cons (o := _) rfl (ws := [13, 12, 10]) (by kernel_rfl) (by decide) (fun d s b w hF hd hw K hK => ?_) ?_
    · have hB : Below y5.heap.size y5 w := (p0_ hF.out)
      have e10 : s 27 = .bool true := (p11_ hF.out) (hw 10 (by decide))
      have e12 : s 29 = (.agg #[.int .i64 RS.m0, .int .i64 RS.m1, .int .i64 RS.m2, .int .i64 RS.m3, .int .i64 RS.m4, .int .i64 RS.m5, .int .i64 RS.m6, .int .i64 RS.m7, .int .i64 RS.m8, .int .i64 RS.tx, .int .i64 RS.ty, .int .i64 RS.tz]) := (p13_ hF.out) (hw 12 (by decide))
      have e13 : s 30 = .slice p T1 c1 := (p14_ hF.out) (hw 13 (by decide))
      dsimp only
      go_simp
      go_at_call 52
      refine (k6.out _ (Below.go hB1 hB)).mono ?_
      rintro e w1 ⟨rfl, hb⟩
      exact hK.out (ups (ups (ups (ups s 27 (.bool true)) 29 ((.agg #[.int .i64 RS.m0, .int .i64 RS.m1, .int .i64 RS.m2, .int .i64 RS.m3, .int .i64 RS.m4, .int .i64 RS.m5, .int .i64 RS.m6, .int .i64 RS.m7, .int .i64 RS.m8, .int .i64 RS.tx, .int .i64 RS.ty, .int .i64 RS.tz]))) 30 (.slice p T1 c1)) 31 ((.agg #[.int .i64 RS.m0, .int .i64 RS.m1, .int .i64 RS.m2, .int .i64 RS.m3, .int .i64 RS.m4, .int .i64 RS.m5, .int .i64 RS.m6, .int .i64 RS.m7, .int .i64 RS.m8, .int .i64 RS.tx, .int .i64 RS.ty, .int .i64 RS.tz]))) b _ ⟨(Below.go hB hb), (p1_ hF.out), (p2_ hF.out), (p3_ hF.out), (p4_ hF.out), (p5_ hF.out), (p6_ hF.out), (p7_ hF.out), (p8_ hF.out), (p9_ hF.out), (p10_ hF.out), (fun _ => rfl), (p12_ hF.out), (fun _ => rfl), (fun _ => rfl), (fun _ => rfl), (p16_ hF.out), (p17_ hF.out), (p18_ hF.out), (p19_ hF.out), (p20_ hF.out), (p21_ hF.out), (p22_ hF.out), (p23_ hF.out), (p24_ hF.out), (p25_ hF.out), (p26_ hF.out), (p27_ hF.out), (q28_ hF.out)⟩
    refine StepsF.cons (o := _) rfl (ws := [12, 14, 10]) (by kernel_rfl) (by decide) (fun d s b w hF hd hw K hK => ?_) ?_
    · have hB : Below y5.heap.size y5 w := (p0_ hF.out)
      have e10 : s 27 = .bool true := (p11_ hF.out) (hw 10 (by decide))
      have e12 : s 29 = (.agg #[.int .i64 RS.m0, .int .i64 RS.m1, .int .i64 RS.m2, .int .i64 RS.m3, .int .i64 RS.m4, .int .i64 RS.m5, .int .i64 RS.m6, .int .i64 RS.m7, .int .i64 RS.m8, .int .i64 RS.tx, .int .i64 RS.ty, .int .i64 RS.tz]) := (p13_ hF.out) (hw 12 (by decide))
      have e14 : s 31 = (.agg #[.int .i64 RS.m0, .int .i64 RS.m1, .int .i64 RS.m2, .int .i64 RS.m3, .int .i64 RS.m4, .int .i64 RS.m5, .int .i64 RS.m6, .int .i64 RS.m7, .int .i64 RS.m8, .int .i64 RS.tx, .int .i64 RS.ty, .int .i64 RS.tz]) := (p15_ hF.out) (hw 14 (by decide))
      dsimp only
      go_simp
      exact hK.out (ups (ups (ups (ups s 27 (.bool true)) 29 ((.agg #[.int .i64 RS.m0, .int .i64 RS.m1, .int .i64 RS.m2, .int .i64 RS.m3, .int .i64 RS.m4, .int .i64 RS.m5, .int .i64 RS.m6, .int .i64 RS.m7, .int .i64 RS.m8, .int .i64 RS.tx, .int .i64 RS.ty, .int .i64 RS.tz]))) 31 ((.agg #[.int .i64 RS.m0, .int .i64 RS.m1, .int .i64 RS.m2, .int .i64 RS.m3, .int .i64 RS.m4, .int .i64 RS.m5, .int .i64 RS.m6, .int .i64 RS.m7, .int .i64 RS.m8, .int .i64 RS.tx, .int .i64 RS.ty, .int .i64 RS.tz]))) 32 (.bool true)) b _ ⟨hB, (p1_ hF.out), (p2_ hF.out), (p3_ hF.out), (p4_ hF.out), (p5_ hF.out), (p6_ hF.out), (p7_ hF.out), (p8_ hF.out), (p9_ hF.out), (p10_ hF.out), (fun _ => rfl), (p12_ hF.out), (fun _ => rfl), (p14_ hF.out), (fun _ => rfl), (fun _ => rfl), (p17_ hF.out), (p18_ hF.out), (p19_ hF.out), (p20_ hF.out), (p21_ hF.out), (p22_ hF.out), (p23_ hF.out), (p24_ hF.out), (p25_ hF.out), (p26_ hF.out), (p27_ hF.out), (q28_ hF.out)⟩
    refine StepsF.cons (o := _) rfl (ws := [10, 15]) (by kernel_rfl) (by decide) (fun d s b w hF hd hw K hK => ?_) ?_
    · have hB : Below y5.heap.size y5 w := (p0_ hF.out)
      have e10 : s 27 = .bool true := (p11_ hF.out) (hw 10 (by decide))
      have e15 : s 32 = .bool true := (p16_ hF.out) (hw 15 (by decide))
      dsimp only
      go_simp
      exact hK.out (ups (ups (ups s 27 (.bool true)) 32 (.bool true)) 33 (.bool true)) b _ ⟨hB, (p1_ hF.out), (p2_ hF.out), (p3_ hF.out), (p4_ hF.out), (p5_ hF.out), (p6_ hF.out), (p7_ hF.out), (p8_ hF.out), (p9_ hF.out), (p10_ hF.out), (fun _ => rfl), (p12_ hF.out), (p13_ hF.out), (p14_ hF.out), (p15_ hF.out), (fun _ => rfl), (fun _ => rfl), (p18_ hF.out), (p19_ hF.out), (p20_ hF.out), (p21_ hF.out), (p22_ hF.out), (p23_ hF.out), (p24_ hF.out), (p25_ hF.out), (p26_ hF.out), (p27_ hF.out), (q28_ hF.out)⟩
    refine StepsF.cons (o := _) rfl (ws := [16, 14]) (by kernel_rfl) (by decide) (fun d s b w hF hd hw K hK => ?_) ?_
    · have hB : Below y5.heap.size y5 w := (p0_ hF.out)
      have e14 : s 31 = (.agg #[.int .i64 RS.m0, .int .i64 RS.m1, .int .i64 RS.m2, .int .i64 RS.m3, .int .i64 RS.m4, .int .i64 RS.m5, .int .i64 RS.m6, .int .i64 RS.m7, .int .i64 RS.m8, .int .i64 RS.tx, .int .i64 RS.ty, .int .i64 RS.tz]) := (p15_ hF.out) (hw 14 (by decide))
      have e16 : s 33 = .bool true := (p17_ hF.out) (hw 16 (by decide))
      dsimp only
      go_simp
      exact hK.out (ups (ups (ups s 31 ((.agg #[.int .i64 RS.m0, .int .i64 RS.m1, .int .i64 RS.m2, .int .i64 RS.m3, .int .i64 RS.m4, .int .i64 RS.m5, .int .i64 RS.m6, .int .i64 RS.m7, .int .i64 RS.m8, .int .i64 RS.tx, .int .i64 RS.ty, .int .i64 RS.tz]))) 33 (.bool true)) 34 (.bool true)) b _ ⟨hB, (p1_ hF.out), (p2_ hF.out), (p3_ hF.out), (p4_ hF.out), (p5_ hF.out), (p6_ hF.out), (p7_ hF.out), (p8_ hF.out), (p9_ hF.out), (p10_ hF.out), (p11_ hF.out), (p12_ hF.out), (p13_ hF.out), (p14_ hF.out), (fun _ => rfl), (p16_ hF.out), (fun _ => rfl), (fun _ => rfl), (p19_ hF.out), (p20_ hF.out), (p21_ hF.out), (p22_ hF.out), (p23_ hF.out), (p24_ hF.out), (p25_ hF.out), (p26_ hF.out), (p27_ hF.out), (q28_ hF.out)⟩
    refine StepsF.cons (o := _) rfl (ws := [17]) (by kernel_rfl) (by decide) (fun d s b w hF hd hw K hK => ?_) ?_
    · have hB : Below y5.heap.size y5 w := (p0_ hF.out)
      have e17 : s 34 = .bool true := (p18_ hF.out) (hw 17 (by decide))
      dsimp only
      go_simp
      exact hK.out (ups (ups s 34 (.bool true)) 35 (.slice q T2 c2)) b _ ⟨hB, (p1_ hF.out), (p2_ hF.out), (p3_ hF.out), (p4_ hF.out), (p5_ hF.out), (p6_ hF.out), (p7_ hF.out), (p8_ hF.out), (p9_ hF.out), (p10_ hF.out), (p11_ hF.out), (p12_ hF.out), (p13_ hF.out), (p14_ hF.out), (p15_ hF.out), (p16_ hF.out), (p17_ hF.out), (fun _ => rfl), (fun _ => rfl), (p20_ hF.out), (p21_ hF.out), (p22_ hF.out), (p23_ hF.out), (p24_ hF.out), (p25_ hF.out), (p26_ hF.out), (p27_ hF.out), (q28_ hF.out)⟩
    refine StepsF.cons (o := _) rfl (ws := [18, 17, 17]) (by kernel_rfl) (by decide) (fun d s b w hF hd hw K hK => ?_) ?_
    · have hB : Below y5.heap.size y5 w := (p0_ hF.out)
      have e17 : s 34 = .bool true := (p18_ hF.out) (hw 17 (by decide))
      have e18 : s 35 = .slice q T2 c2 := (p19_ hF.out) (hw 18 (by decide))
      dsimp only
      go_simp
      go_at_call 53
      refine (k7.out _ (Below.go hB1 hB)).mono ?_
      rintro e w1 ⟨rfl, hb⟩
      exact hK.out (ups (ups (ups s 34 (.bool true)) 35 (.slice q T2 c2)) 36 ((.agg #[.int .i64 RX.m0, .int .i64 RX.m1, .int .i64 RX.m2, .int .i64 RX.m3, .int .i64 RX.m4, .int .i64 RX.m5, .int .i64 RX.m6, .int .i64 RX.m7, .int .i64 RX.m8, .int .i64 RX.tx, .int .i64 RX.ty, .int .i64 RX.tz]))) b _ ⟨(Below.go hB hb), (p1_ hF.out), (p2_ hF.out), (p3_ hF.out), (p4_ hF.out), (p5_ hF.out), (p6_ hF.out), (p7_ hF.out), (p8_ hF.out), (p9_ hF.out), (p10_ hF.out), (p11_ hF.out), (p12_ hF.out), (p13_ hF.out), (p14_ hF.out), (p15_ hF.out), (p16_ hF.out), (p17_ hF.out), (fun _ => rfl), (fun _ => rfl), (fun _ => rfl), (p21_ hF.out), (p22_ hF.out), (p23_ hF.out), (p24_ hF.out), (p25_ hF.out), (p26_ hF.out), (p27_ hF.out), (q28_ hF.out)⟩
    refine StepsF.cons (o := _) rfl (ws := [17]) (by kernel_rfl) (by decide) (fun d s b w hF hd hw K hK => ?_) ?_
    · have hB : Below y5.heap.size y5 w := (p0_ hF.out)
      have e17 : s 34 = .bool true := (p18_ hF.out) (hw 17 (by decide))
      dsimp only
      go_simp
      exact hK.out (ups (ups s 34 (.bool true)) 37 (.slice q T2 c2)) b _ ⟨hB, (p1_ hF.out), (p2_ hF.out), (p3_ hF.out), (p4_ hF.out), (p5_ hF.out), (p6_ hF.out), (p7_ hF.out), (p8_ hF.out), (p9_ hF.out), (p10_ hF.out), (p11_ hF.out), (p12_ hF.out), (p13_ hF.out), (p14_ hF.out), (p15_ hF.out), (p16_ hF.out), (p17_ hF.out), (fun _ => rfl), (p19_ hF.out), (p20_ hF.out), (fun _ => rfl), (p22_ hF.out), (p23_ hF.out), (p24_ hF.out), (p25_ hF.out), (p26_ hF.out), (p27_ hF.out), (q28_ hF.out)⟩
    refine StepsF.cons (o := _) rfl (ws := [20, 19, 17]) (by kernel_rfl) (by decide) (fun d s b w hF hd hw K hK => ?_) ?_
    · have hB : Below y5.heap.size y5 w := (p0_ hF.out)
      have e17 : s 34 = .bool true := (p18_ hF.out) (hw 17 (by decide))
      have e19 : s 36 = (.agg #[.int .i64 RX.m0, .int .i64 RX.m1, .int .i64 RX.m2, .int .i64 RX.m3, .int .i64 RX.m4, .int .i64 RX.m5, .int .i64 RX.m6, .int .i64 RX.m7, .int .i64 RX.m8, .int .i64 RX.tx, .int .i64 RX.ty, .int .i64 RX.tz]) := (p20_ hF.out) (hw 19 (by decide))
      have e20 : s 37 = .slice q T2 c2 := (p21_ hF.out) (hw 20 (by decide))
      dsimp only
      go_simp
      go_at_call 54
      refine (k8.out _ (Below.go hB1 hB)).mono ?_
      rintro e w1 ⟨rfl, hb⟩
      exact hK.out (ups (ups (ups (ups s 34 (.bool true)) 36 ((.agg #[.int .i64 RX.m0, .int .i64 RX.m1, .int .i64 RX.m2, .int .i64 RX.m3, .int .i64 RX.m4, .int .i64 RX.m5, .int .i64 RX.m6, .int .i64 RX.m7, .int .i64 RX.m8, .int .i64 RX.tx, .int .i64 RX.ty, .int .i64 RX.tz]))) 37 (.slice q T2 c2)) 38 ((.agg #[.int .i64 RX.m0, .int .i64 RX.m1, .int .i64 RX.m2, .int .i64 RX.m3, .int .i64 RX.m4, .int .i64 RX.m5, .int .i64 RX.m6, .int .i64 RX.m7, .int .i64 RX.m8, .int .i64 RX.tx, .int .i64 RX.ty, .int .i64 RX.tz]))) b _ ⟨(Below.go hB hb), (p1_ hF.out), (p2_ hF.out), (p3_ hF.out), (p4_ hF.out), (p5_ hF.out), (p6_ hF.out), (p7_ hF.out), (p8_ hF.out), (p9_ hF.out), (p10_ hF.out), (p11_ hF.out), (p12_ hF.out), (p13_ hF.out), (p14_ hF.out), (p15_ hF.out), (p16_ hF.out), (p17_ hF.out), (fun _ => rfl), (p19_ hF.out), (fun _ => rfl), (fun _ => rfl), (fun _ => rfl), (p23_ hF.out), (p24_ hF.out), (p25_ hF.out), (p26_ hF.out), (p27_ hF.out), (q28_ hF.out)⟩
    refine StepsF.cons (o := _) rfl (ws := [19, 21, 17]) (by kernel_rfl) (by decide) (fun d s b w hF hd hw K hK => ?_) ?_
    · have hB : Below y5.heap.size y5 w := (p0_ hF.out)
      have e17 : s 34 = .bool true := (p18_ hF.out) (hw 17 (by decide))
      have e19 : s 36 = (.agg #[.int .i64 RX.m0, .int .i64 RX.m1, .int .i64 RX.m2, .int .i64 RX.m3, .int .i64 RX.m4, .int .i64 RX.m5, .int .i64 RX.m6, .int .i64 RX.m7, .int .i64 RX.m8, .int .i64 RX.tx, .int .i64 RX.ty, .int .i64 RX.tz]) := (p20_ hF.out) (hw 19 (by decide))
      have e21 : s 38 = (.agg #[.int .i64 RX.m0, .int .i64 RX.m1, .int .i64 RX.m2, .int .i64 RX.m3, .int .i64 RX.m4, .int .i64 RX.m5, .int .i64 RX.m6, .int .i64 RX.m7, .int .i64 RX.m8, .int .i64 RX.tx, .int .i64 RX.ty, .int .i64 RX.tz]) := (p22_ hF.out) (hw 21 (by decide))
      dsimp only
      go_simp
      exact hK.out (ups (ups (ups (ups s 34 (.bool true)) 36 ((.agg #[.int .i64 RX.m0, .int .i64 RX.m1, .int .i64 RX.m2, .int .i64 RX.m3, .int .i64 RX.m4, .int .i64 RX.m5, .int .i64 RX.m6, .int .i64 RX.m7, .int .i64 RX.m8, .int .i64 RX.tx, .int .i64 RX.ty, .int .i64 RX.tz]))) 38 ((.agg #[.int .i64 RX.m0, .int .i64 RX.m1, .int .i64 RX.m2, .int .i64 RX.m3, .int .i64 RX.m4, .int .i64 RX.m5, .int .i64 RX.m6, .int .i64 RX.m7, .int .i64 RX.m8, .int .i64 RX.tx, .int .i64 RX.ty, .int .i64 RX.tz]))) 39 (.bool true)) b _ ⟨hB, (p1_ hF.out), (p2_ hF.out), (p3_ hF.out), (p4_ hF.out), (p5_ hF.out), (p6_ hF.out), (p7_ hF.out), (p8_ hF.out), (p9_ hF.out), (p10_ hF.out), (p11_ hF.out), (p12_ hF.out), (p13_ hF.out), (p14_ hF.out), (p15_ hF.out), (p16_ hF.out), (p17_ hF.out), (fun _ => rfl), (p19_ hF.out), (fun _ => rfl), (p21_ hF.out), (fun _ => rfl), (fun _ => rfl), (p24_ hF.out), (p25_ hF.out), (p26_ hF.out), (p27_ hF.out), (q28_ hF.out)⟩
    refine StepsF.cons (o := _) rfl (ws := [17, 22]) (by kernel_rfl) (by decide) (fun d s b w hF hd hw K hK => ?_) ?_
    · have hB : Below y5.heap.size y5 w := (p0_ hF.out)
      have e17 : s 34 = .bool true := (p18_ hF.out) (hw 17 (by decide))
      have e22 : s 39 = .bool true := (p23_ hF.out) (hw 22 (by decide))
      dsimp only
      go_simp
      exact hK.out (ups (ups (ups s 34 (.bool true)) 39 (.bool true)) 40 (.bool true)) b _ ⟨hB, (p1_ hF.out), (p2_ hF.out), (p3_ hF.out), (p4_ hF.out), (p5_ hF.out), (p6_ hF.out), (p7_ hF.out), (p8_ hF.out), (p9_ hF.out), (p10_ hF.out), (p11_ hF.out), (p12_ hF.out), (p13_ hF.out), (p14_ hF.out), (p15_ hF.out), (p16_ hF.out), (p17_ hF.out), (fun _ => rfl), (p19_ hF.out), (p20_ hF.out), (p21_ hF.out), (p22_ hF.out), (fun _ => rfl), (fun _ => rfl), (p25_ hF.out), (p26_ hF.out), (p27_ hF.out), (q28_ hF.out)⟩
    refine StepsF.cons (o := _) rfl (ws := [23, 21]) (by kernel_rfl) (by decide) (fun d s b w hF hd hw K hK => ?_) ?_
    · have hB : Below y5.heap.size y5 w := (p0_ hF.out)
      have e21 : s 38 = (.agg #[.int .i64 RX.m0, .int .i64 RX.m1, .int .i64 RX.m2, .int .i64 RX.m3, .int .i64 RX.m4, .int .i64 RX.m5, .int .i64 RX.m6, .int .i64 RX.m7, .int .i64 RX.m8, .int .i64 RX.tx, .int .i64 RX.ty, .int .i64 RX.tz]) := (p22_ hF.out) (hw 21 (by decide))
      have e23 : s 40 = .bool true := (p24_ hF.out) (hw 23 (by decide))
      dsimp only
      go_simp
      exact hK.out (ups (ups (ups s 38 ((.agg #[.int .i64 RX.m0, .int .i64 RX.m1, .int .i64 RX.m2, .int .i64 RX.m3, .int .i64 RX.m4, .int .i64 RX.m5, .int .i64 RX.m6, .int .i64 RX.m7, .int .i64 RX.m8, .int .i64 RX.tx, .int .i64 RX.ty, .int .i64 RX.tz]))) 40 (.bool true)) 41 (.bool true)) b _ ⟨hB, (p1_ hF.out), (p2_ hF.out), (p3_ hF.out), (p4_ hF.out), (p5_ hF.out), (p6_ hF.out), (p7_ hF.out), (p8_ hF.out), (p9_ hF.out), (p10_ hF.out), (p11_ hF.out), (p12_ hF.out), (p13_ hF.out), (p14_ hF.out), (p15_ hF.out), (p16_ hF.out), (p17_ hF.out), (p18_ hF.out), (p19_ hF.out), (p20_ hF.out), (p21_ hF.out), (fun _ => rfl), (p23_ hF.out), (fun _ => rfl), (fun _ => rfl), (p26_ hF.out), (p27_ hF.out), (q28_ hF.out)⟩
    refine StepsF.cons (o := _) rfl (ws := [24, 24]) (by kernel_rfl) (by decide) (fun d s b w hF hd hw K hK => ?_) ?_
    · have hB : Below y5.heap.size y5 w := (p0_ hF.out)
      have e24 : s 41 = .bool true := (p25_ hF.out) (hw 24 (by decide))
      dsimp only
      go_simp
      go_at_call 55
      refine (k9.out _).mono ?_
      rintro e w1 ⟨rfl, hb⟩
      exact hK.out (ups (ups s 41 (.bool true)) 42 (.bool true)) b _ ⟨(Below.go hB hb), (p1_ hF.out), (p2_ hF.out), (p3_ hF.out), (p4_ hF.out), (p5_ hF.out), (p6_ hF.out), (p7_ hF.out), (p8_ hF.out), (p9_ hF.out), (p10_ hF.out), (p11_ hF.out), (p12_ hF.out), (p13_ hF.out), (p14_ hF.out), (p15_ hF.out), (p16_ hF.out), (p17_ hF.out), (p18_ hF.out), (p19_ hF.out), (p20_ hF.out), (p21_ hF.out), (p22_ hF.out), (p23_ hF.out), (p24_ hF.out), (fun _ => rfl), (fun _ => rfl), (p27_ hF.out), (q28_ hF.out)⟩
    refine StepsF.cons (o := _) rfl (ws := [24, 25]) (by kernel_rfl) (by decide) (fun d s b w hF hd hw K hK => ?_) ?_
    · have hB : Below y5.heap.size y5 w := (p0_ hF.out)
      have e24 : s 41 = .bool true := (p25_ hF.out) (hw 24 (by decide))
      have e25 : s 42 = .bool true := (p26_ hF.out) (hw 25 (by decide))
      dsimp only
      go_simp
      exact hK.out (ups (ups (ups s 41 (.bool true)) 42 (.bool true)) 43 (.bool true)) b _ ⟨hB, (p1_ hF.out), (p2_ hF.out), (p3_ hF.out), (p4_ hF.out), (p5_ hF.out), (p6_ hF.out), (p7_ hF.out), (p8_ hF.out), (p9_ hF.out), (p10_ hF.out), (p11_ hF.out), (p12_ hF.out), (p13_ hF.out), (p14_ hF.out), (p15_ hF.out), (p16_ hF.out), (p17_ hF.out), (p18_ hF.out), (p19_ hF.out), (p20_ hF.out), (p21_ hF.out), (p22_ hF.out), (p23_ hF.out), (p24_ hF.out), (fun _ => rfl), (fun _ => rfl), (fun _ => rfl), (q28_ hF.out)⟩
    refine StepsF.cons (o := _) rfl (ws := [26, 25, 0, 1, 2, 3, 4, 5, 6, 7, 8, 9, 10, 11, 12, 13, 14, 15, 16, 17, 18, 19, 20, 21, 22, 23, 24, 25, 26]) (by kernel_rfl) (by decide) (fun d s b w hF hd hw K hK => ?_) ?_
    · have hB : Below y5.heap.size y5 w := (p0_ hF.out)
      have e0 : s 17 = (.agg #[.int .i64 4294967296, .int .i64 0, .int .i64 0, .int .i64 0, .int .i64 4294967296, .int .i64 0, .int .i64 0, .int .i64 0, .int .i64 4294967296, .int .i64 0, .int .i64 0, .int .i64 0]) := (p1_ hF.out) (hw 0 (by decide))
      have e1 : s 18 = (.agg #[.int .i64 4294967296, .int .i64 0, .int .i64 0, .int .i64 0, .int .i64 4294967296, .int .i64 0, .int .i64 0, .int .i64 0, .int .i64 4294967296, .int .i64 0, .int .i64 0, .int .i64 0]) := (p2_ hF.out) (hw 1 (by decide))
      have e2 : s 19 = .bool true := (p3_ hF.out) (hw 2 (by decide))
      have e3 : s 20 = .bool true := (p4_ hF.out) (hw 3 (by decide))
      have e4 : s 21 = (.agg #[.int .i64 x, .int .i64 y, .int .i64 z]) := (p5_ hF.out) (hw 4 (by decide))
      have e5 : s 22 = (.agg #[.int .i64 4294967296, .int .i64 0, .int .i64 0, .int .i64 0, .int .i64 4294967296, .int .i64 0, .int .i64 0, .int .i64 0, .int .i64 4294967296, .int .i64 x, .int .i64 y, .int .i64 z]) := (p6_ hF.out) (hw 5 (by decide))
      have e6 : s 23 = (.agg #[.int .i64 x, .int .i64 y, .int .i64 z]) := (p7_ hF.out) (hw 6 (by decide))
      have e7 : s 24 = (.agg #[.int .i64 4294967296, .int .i64 0, .int .i64 0, .int .i64 0, .int .i64 4294967296, .int .i64 0, .int .i64 0, .int .i64 0, .int .i64 4294967296, .int .i64 x, .int .i64 y, .int .i64 z]) := (p8_ hF.out) (hw 7 (by decide))
      have e8 : s 25 = .bool true := (p9_ hF.out) (hw 8 (by decide))
      have e9 : s 26 = .bool true := (p10_ hF.out) (hw 9 (by decide))
      have e10 : s 27 = .bool true := (p11_ hF.out) (hw 10 (by decide))
      have e11 : s 28 = .slice p T1 c1 := (p12_ hF.out) (hw 11 (by decide))
      have e12 : s 29 = (.agg #[.int .i64 RS.m0, .int .i64 RS.m1, .int .i64 RS.m2, .int .i64 RS.m3, .int .i64 RS.m4, .int .i64 RS.m5, .int .i64 RS.m6, .int .i64 RS.m7, .int .i64 RS.m8, .int .i64 RS.tx, .int .i64 RS.ty, .int .i64 RS.tz]) := (p13_ hF.out) (hw 12 (by decide))
      have e13 : s 30 = .slice p T1 c1 := (p14_ hF.out) (hw 13 (by decide))
      have e14 : s 31 = (.agg #[.int .i64 RS.m0, .int .i64 RS.m1, .int .i64 RS.m2, .int .i64 RS.m3, .int .i64 RS.m4, .int .i64 RS.m5, .int .i64 RS.m6, .int .i64 RS.m7, .int .i64 RS.m8, .int .i64 RS.tx, .int .i64 RS.ty, .int .i64 RS.tz]) := (p15_ hF.out) (hw 14 (by decide))
      have e15 : s 32 = .bool true := (p16_ hF.out) (hw 15 (by decide))
      have e16 : s 33 = .bool true := (p17_ hF.out) (hw 16 (by decide))
      have e17 : s 34 = .bool true := (p18_ hF.out) (hw 17 (by decide))
      have e18 : s 35 = .slice q T2 c2 := (p19_ hF.out) (hw 18 (by decide))
      have e19 : s 36 = (.agg #[.int .i64 RX.m0, .int .i64 RX.m1, .int .i64 RX.m2, .int .i64 RX.m3, .int .i64 RX.m4, .int .i64 RX.m5, .int .i64 RX.m6, .int .i64 RX.m7, .int .i64 RX.m8, .int .i64 RX.tx, .int .i64 RX.ty, .int .i64 RX.tz]) := (p20_ hF.out) (hw 19 (by decide))
      have e20 : s 37 = .slice q T2 c2 := (p21_ hF.out) (hw 20 (by decide))
      have e21 : s 38 = (.agg #[.int .i64 RX.m0, .int .i64 RX.m1, .int .i64 RX.m2, .int .i64 RX.m3, .int .i64 RX.m4, .int .i64 RX.m5, .int .i64 RX.m6, .int .i64 RX.m7, .int .i64 RX.m8, .int .i64 RX.tx, .int .i64 RX.ty, .int .i64 RX.tz]) := (p22_ hF.out) (hw 21 (by decide))
      have e22 : s 39 = .bool true := (p23_ hF.out) (hw 22 (by decide))
      have e23 : s 40 = .bool true := (p24_ hF.out) (hw 23 (by decide))
      have e24 : s 41 = .bool true := (p25_ hF.out) (hw 24 (by decide))
      have e25 : s 42 = .bool true := (p26_ hF.out) (hw 25 (by decide))
      have e26 : s 43 = .bool true := (p27_ hF.out) (hw 26 (by decide))
      dsimp only
      go_simp
      exact hK.out (ups (ups (ups (ups (ups (ups (ups (ups (ups (ups (ups (ups (ups (ups (ups (ups (ups (ups (ups (ups (ups (ups (ups (ups (ups (ups (ups (ups s 17 ((.agg #[.int .i64 4294967296, .int .i64 0, .int .i64 0, .int .i64 0, .int .i64 4294967296, .int .i64 0, .int .i64 0, .int .i64 0, .int .i64 4294967296, .int .i64 0, .int .i64 0, .int .i64 0]))) 18 ((.agg #[.int .i64 4294967296, .int .i64 0, .int .i64 0, .int .i64 0, .int .i64 4294967296, .int .i64 0, .int .i64 0, .int .i64 0, .int .i64 4294967296, .int .i64 0, .int .i64 0, .int .i64 0]))) 19 (.bool true)) 20 (.bool true)) 21 ((.agg #[.int .i64 x, .int .i64 y, .int .i64 z]))) 22 ((.agg #[.int .i64 4294967296, .int .i64 0, .int .i64 0, .int .i64 0, .int .i64 4294967296, .int .i64 0, .int .i64 0, .int .i64 0, .int .i64 4294967296, .int .i64 x, .int .i64 y, .int .i64 z]))) 23 ((.agg #[.int .i64 x, .int .i64 y, .int .i64 z]))) 24 ((.agg #[.int .i64 4294967296, .int .i64 0, .int .i64 0, .int .i64 0, .int .i64 4294967296, .int .i64 0, .int .i64 0, .int .i64 0, .int .i64 4294967296, .int .i64 x, .int .i64 y, .int .i64 z]))) 25 (.bool true)) 26 (.bool true)) 27 (.bool true)) 28 (.slice p T1 c1)) 29 ((.agg #[.int .i64 RS.m0, .int .i64 RS.m1, .int .i64 RS.m2, .int .i64 RS.m3, .int .i64 RS.m4, .int .i64 RS.m5, .int .i64 RS.m6, .int .i64 RS.m7, .int .i64 RS.m8, .int .i64 RS.tx, .int .i64 RS.ty, .int .i64 RS.tz]))) 30 (.slice p T1 c1)) 31 ((.agg #[.int .i64 RS.m0, .int .i64 RS.m1, .int .i64 RS.m2, .int .i64 RS.m3, .int .i64 RS.m4, .int .i64 RS.m5, .int .i64 RS.m6, .int .i64 RS.m7, .int .i64 RS.m8, .int .i64 RS.tx, .int .i64 RS.ty, .int .i64 RS.tz]))) 32 (.bool true)) 33 (.bool true)) 34 (.bool true)) 35 (.slice q T2 c2)) 36 ((.agg #[.int .i64 RX.m0, .int .i64 RX.m1, .int .i64 RX.m2, .int .i64 RX.m3, .int .i64 RX.m4, .int .i64 RX.m5, .int .i64 RX.m6, .int .i64 RX.m7, .int .i64 RX.m8, .int .i64 RX.tx, .int .i64 RX.ty, .int .i64 RX.tz]))) 37 (.slice q T2 c2)) 38 ((.agg #[.int .i64 RX.m0, .int .i64 RX.m1, .int .i64 RX.m2, .int .i64 RX.m3, .int .i64 RX.m4, .int .i64 RX.m5, .int .i64 RX.m6, .int .i64 RX.m7, .int .i64 RX.m8, .int .i64 RX.tx, .int .i64 RX.ty, .int .i64 RX.tz]))) 39 (.bool true)) 40 (.bool true)) 41 (.bool true)) 42 (.bool true)) 43 (.bool true)) 6 (.bool true)) b _ ⟨hB, (fun _ => rfl), (fun _ => rfl), (fun _ => rfl), (fun _ => rfl), (fun _ => rfl), (fun _ => rfl), (fun _ => rfl), (fun _ => rfl), (fun _ => rfl), (fun _ => rfl), (fun _ => rfl), (fun _ => rfl), (fun _ => rfl), (fun _ => rfl), (fun _ => rfl), (fun _ => rfl), (fun _ => rfl), (fun _ => rfl), (fun _ => rfl), (fun _ => rfl), (fun _ => rfl), (fun _ => rfl), (fun _ => rfl), (fun _ => rfl), (fun _ => rfl), (fun _ => rfl), (fun _ => rfl), (fun _ => rfl)⟩
    exact StepsF.nil
  intro d s b y6 hF hall
  replace hF := Lib.hid hF
  have hB : Below y5.heap.size y5 y6 := (p0_ hF.out)
  try dsimp only
  have e0 : s 17 = (.agg #[.int .i64 4294967296, .int .i64 0, .int .i64 0, .int .i64 0, .int .i64 4294967296, .int .i64 0, .int .i64 0, .int .i64 0, .int .i64 4294967296, .int .i64 0, .int .i64 0, .int .i64 0]) := (p1_ hF.out) (hall 0 (by decide))
  have e1 : s 18 = (.agg #[.int .i64 4294967296, .int .i64 0, .int .i64 0, .int .i64 0, .int .i64 4294967296, .int .i64 0, .int .i64 0, .int .i64 0, .int .i64 4294967296, .int .i64 0, .int .i64 0, .int .i64 0]) := (p2_ hF.out) (hall 1 (by decide))
  have e2 : s 19 = .bool true := (p3_ hF.out) (hall 2 (by decide))
  have e3 : s 20 = .bool true := (p4_ hF.out) (hall 3 (by decide))
  have e4 : s 21 = (.agg #[.int .i64 x, .int .i64 y, .int .i64 z]) := (p5_ hF.out) (hall 4 (by decide))
  have e5 : s 22 = (.agg #[.int .i64 4294967296, .int .i64 0, .int .i64 0, .int .i64 0, .int .i64 4294967296, .int .i64 0, .int .i64 0, .int .i64 0, .int .i64 4294967296, .int .i64 x, .int .i64 y, .int .i64 z]) := (p6_ hF.out) (hall 5 (by decide))
  have e6 : s 23 = (.agg #[.int .i64 x, .int .i64 y, .int .i64 z]) := (p7_ hF.out) (hall 6 (by decide))
  have e7 : s 24 = (.agg #[.int .i64 4294967296, .int .i64 0, .int .i64 0, .int .i64 0, .int .i64 4294967296, .int .i64 0, .int .i64 0, .int .i64 0, .int .i64 4294967296, .int .i64 x, .int .i64 y, .int .i64 z]) := (p8_ hF.out) (hall 7 (by decide))
  have e8 : s 25 = .bool true := (p9_ hF.out) (hall 8 (by decide))
  have e9 : s 26 = .bool true := (p10_ hF.out) (hall 9 (by decide))
  have e10 : s 27 = .bool true := (p11_ hF.out) (hall 10 (by decide))
  have e11 : s 28 = .slice p T1 c1 := (p12_ hF.out) (hall 11 (by decide))
  have e12 : s 29 = (.agg #[.int .i64 RS.m0, .int .i64 RS.m1, .int .i64 RS.m2, .int .i64 RS.m3, .int .i64 RS.m4, .int .i64 RS.m5, .int .i64 RS.m6, .int .i64 RS.m7, .int .i64 RS.m8, .int .i64 RS.tx, .int .i64 RS.ty, .int .i64 RS.tz]) := (p13_ hF.out) (hall 12 (by decide))
  have e13 : s 30 = .slice p T1 c1 := (p14_ hF.out) (hall 13 (by decide))
  have e14 : s 31 = (.agg #[.int .i64 RS.m0, .int .i64 RS.m1, .int .i64 RS.m2, .int .i64 RS.m3, .int .i64 RS.m4, .int .i64 RS.m5, .int .i64 RS.m6, .int .i64 RS.m7, .int .i64 RS.m8, .int .i64 RS.tx, .int .i64 RS.ty, .int .i64 RS.tz]) := (p15_ hF.out) (hall 14 (by decide))
  have e15 : s 32 = .bool true := (p16_ hF.out) (hall 15 (by decide))
  have e16 : s 33 = .bool true := (p17_ hF.out) (hall 16 (by decide))
  have e17 : s 34 = .bool true := (p18_ hF.out) (hall 17 (by decide))
  have e18 : s 35 = .slice q T2 c2 := (p19_ hF.out) (hall 18 (by decide))
  have e19 : s 36 = (.agg #[.int .i64 RX.m0, .int .i64 RX.m1, .int .i64 RX.m2, .int .i64 RX.m3, .int .i64 RX.m4, .int .i64 RX.m5, .int .i64 RX.m6, .int .i64 RX.m7, .int .i64 RX.m8, .int .i64 RX.tx, .int .i64 RX.ty, .int .i64 RX.tz]) := (p20_ hF.out) (hall 19 (by decide))
  have e20 : s 37 = .slice q T2 c2 := (p21_ hF.out) (hall 20 (by decide))
  have e21 : s 38 = (.agg #[.int .i64 RX.m0, .int .i64 RX.m1, .int .i64 RX.m2, .int .i64 RX.m3, .int .i64 RX.m4, .int .i64 RX.m5, .int .i64 RX.m6, .int .i64 RX.m7, .int .i64 RX.m8, .int .i64 RX.tx, .int .i64 RX.ty, .int .i64 RX.tz]) := (p22_ hF.out) (hall 21 (by decide))
  have e22 : s 39 = .bool true := (p23_ hF.out) (hall 22 (by decide))
  have e23 : s 40 = .bool true := (p24_ hF.out) (hall 23 (by decide))
  have e24 : s 41 = .bool true := (p25_ hF.out) (hall 24 (by decide))
  have e25 : s 42 = .bool true := (p26_ hF.out) (hall 25 (by decide))
  have e26 : s 43 = .bool true := (p27_ hF.out) (hall 26 (by decide))
  have e27 : s 6 = .bool true := (q28_ hF.out) (hall 27 (by decide))
  rw [e0, e1, e2, e3, e4, e5, e6, e7, e8, e9, e10, e11, e12, e13, e14, e15, e16, e17, e18, e19, e20, e21, e22, e23, e24, e25, e26, e27]
  clear hall hF e0 e1 e2 e3 e4 e5 e6 e7 e8 e9 e10 e11 e12 e13 e14 e15 e16 e17 e18 e19 e20 e21 e22 e23 e24 e25 e26 e27
  clear d s b
  go_wp2_with (fail)
  go_ret
  exact ⟨rfl, Below.go hB1 hB⟩
end Go.Proofs.Ytgggngcgcpmkbaa

/- BE -/
namespace Go.Proofs.Ytgggngcgcpmkbaa
set_option linter.unusedVariables false
set_option maxRecDepth 2000
set_option linter.unusedSimpArgs false
open Go.RowKit

theorem Has.two {b o m : Nat} {cs ds : List Value} {W : World} (h1 : Has b o cs W) (h2 : Has b m ds W) (hm : m = o + cs.length) : Has b o (cs ++ ds) W := ⟨h1.lt, fun j v hj => by
  by_cases hlt : j < cs.length
  · rw [List.getElem?_append_left hlt] at hj
    exact h1.cell j v hj
  · rw [List.getElem?_append_right (by omega)] at hj
    have h := h2.cell (j - cs.length) v hj
    rwa [show m + (j - cs.length) = o + j by omega] at h⟩
def isFix (cs : List Value) : Prop := ∃ x : Int, cs = [.int .i64 x]
def isVec (cs : List Value) : Prop := ∃ x y z : Int, cs = [.int .i64 x, .int .i64 y, .int .i64 z]
theorem cs_fix {H : Type} {enc : TypeId × Value → H} {w : World} {base : Nat} {spare : Nat → Bool} {held : Bool} {fuel : Nat} {cs : List Value} {x : DataW H × List MemPlace}
    (h : DataW.trod enc Try.prog w base spare held fuel 34 cs = some x) : isFix cs := by
  obtain ⟨z, e, _, _⟩ := DataW.trod_int Try.underlying34 h
  exact ⟨z, by simpa using e⟩
theorem cs_vec {H : Type} {enc : TypeId × Value → H} {w : World} {base : Nat} {spare : Nat → Bool} {held : Bool} {fuel : Nat} {cs : List Value} {x : DataW H × List MemPlace}
    (h : DataW.trod enc Try.prog w base spare held fuel 36 cs = some x) : isVec cs := by
  obtain ⟨p, q, r, e, _, _, _⟩ := cs_three Try.underlying36 (by kernel_rfl) (by kernel_rfl) Try.underlying34 Try.underlying34 Try.underlying34 h
  exact ⟨p, q, r, e⟩

theorem size_both (p : Option Addr) (n cap : Nat) (f : Nat → List Value) (w : World) (sl : Sl w p n cap 1 f isFix) : ∃ RS : Aff, (∀ w', Below w.heap.size w w' → Calls Try.prog 51 #[.slice p n cap] w' fun e w'' => e = .returned (.agg #[.int .i64 RS.m0, .int .i64 RS.m1, .int .i64 RS.m2, .int .i64 RS.m3, .int .i64 RS.m4, .int .i64 RS.m5, .int .i64 RS.m6, .int .i64 RS.m7, .int .i64 RS.m8, .int .i64 RS.tx, .int .i64 RS.ty, .int .i64 RS.tz]) ∧ Below w'.heap.size w' w'') ∧ (∀ w', Below w.heap.size w w' → Calls Try.prog 52 #[.slice p n cap] w' fun e w'' => e = .returned (.agg #[.int .i64 RS.m0, .int .i64 RS.m1, .int .i64 RS.m2, .int .i64 RS.m3, .int .i64 RS.m4, .int .i64 RS.m5, .int .i64 RS.m6, .int .i64 RS.m7, .int .i64 RS.m8, .int .i64 RS.tx, .int .i64 RS.ty, .int .i64 RS.tz]) ∧ Below w'.heap.size w' w'') := by
  by_cases h0 : n = 0
  · subst h0
    exact ⟨sameA, fun w' _ => Size_none p cap w', fun w' _ => RSize_0 p cap w'⟩
  rcases sl.row with h | ⟨blk, off, rfl, hb, hr⟩
  · exact absurd h h0
  have lt : ∀ w', Below w.heap.size w w' → blk < w'.heap.size := fun w' h => Nat.lt_of_lt_of_le hb h.size
  obtain ⟨x, ex⟩ := sl.q 0 (by omega)
  have H0 : Has blk off [.int .i64 x] w := by have h := hr 0 (by omega); rw [ex] at h; simpa using h
  by_cases h1 : n = 1
  · subst h1
    exact ⟨⟨x, 0, 0, 0, x, 0, 0, 0, x, 0, 0, 0⟩, fun w' h => Size_few blk off 1 cap x (by omega) w' (lt w' h) ((H0.later h).at 0 _ rfl), fun w' h => RSize_1 x blk off cap w' (H0.later h)⟩
  obtain ⟨y, ey⟩ := sl.q 1 (by omega)
  have H1 : Has blk off [.int .i64 x, .int .i64 y] w := by
    have h := hr 1 (by omega)
    rw [ey] at h
    exact H0.two h (by simp)
  by_cases h2 : n = 2
  · subst h2
    exact ⟨⟨x, 0, 0, 0, x, 0, 0, 0, x, 0, 0, 0⟩, fun w' h => Size_few blk off 2 cap x (by omega) w' (lt w' h) ((H0.later h).at 0 _ rfl), fun w' h => RSize_2 x blk off cap w' (H0.later h)⟩
  obtain ⟨z, ez⟩ := sl.q 2 (by omega)
  have H2 : Has blk off [.int .i64 x, .int .i64 y, .int .i64 z] w := by
    have h := hr 2 (by omega)
    rw [ez] at h
    exact H1.two h (by simp)
  exact ⟨⟨x, 0, 0, 0, y, 0, 0, 0, z, 0, 0, 0⟩, fun w' h => Size_many blk off n cap x y z (by omega) w' (lt w' h) ((H2.later h).at 0 _ rfl) ((H2.later h).at 1 _ rfl) ((H2.later h).at 2 _ rfl), fun w' h => RSize_3 x y z blk off n cap (by omega) w' (H2.later h)⟩

theorem axes_both (p : Option Addr) (n cap : Nat) (f : Nat → List Value) (w : World) (sl : Sl w p n cap 3 f isVec) : ∃ RX : Aff, (∀ w', Below w.heap.size w w' → Calls Try.prog 53 #[.slice p n cap] w' fun e w'' => e = .returned (.agg #[.int .i64 RX.m0, .int .i64 RX.m1, .int .i64 RX.m2, .int .i64 RX.m3, .int .i64 RX.m4, .int .i64 RX.m5, .int .i64 RX.m6, .int .i64 RX.m7, .int .i64 RX.m8, .int .i64 RX.tx, .int .i64 RX.ty, .int .i64 RX.tz]) ∧ Below w'.heap.size w' w'') ∧ (∀ w', Below w.heap.size w w' → Calls Try.prog 54 #[.slice p n cap] w' fun e w'' => e = .returned (.agg #[.int .i64 RX.m0, .int .i64 RX.m1, .int .i64 RX.m2, .int .i64 RX.m3, .int .i64 RX.m4, .int .i64 RX.m5, .int .i64 RX.m6, .int .i64 RX.m7, .int .i64 RX.m8, .int .i64 RX.tx, .int .i64 RX.ty, .int .i64 RX.tz]) ∧ Below w'.heap.size w' w'') := by
  by_cases h0 : n = 0
  · subst h0
    exact ⟨sameA, fun w' _ => Axes_nil p cap w', fun w' _ => RAxes_0 p cap w'⟩
  rcases sl.row with h | ⟨blk, off, rfl, hb, hr⟩
  · exact absurd h h0
  obtain ⟨x0, y0, z0, e0⟩ := sl.q 0 (by omega)
  have H0 : Has blk off [.int .i64 x0, .int .i64 y0, .int .i64 z0] w := by
    have h := hr 0 (by omega)
    rw [e0] at h
    exact by simpa using h
  by_cases h1 : n = 1
  · subst h1
    exact ⟨⟨x0, 0, 0, y0, 4294967296, 0, z0, 0, 4294967296, 0, 0, 0⟩, fun w' h => Axes_1 x0 y0 z0 blk off cap w' (H0.later h), fun w' h => RAxes_1 x0 y0 z0 blk off cap w' (H0.later h)⟩
  obtain ⟨x1, y1, z1, e1⟩ := sl.q 1 (by omega)
  have H1 : Has blk off [.int .i64 x0, .int .i64 y0, .int .i64 z0, .int .i64 x1, .int .i64 y1, .int .i64 z1] w := by
    have h := hr 1 (by omega)
    rw [e1] at h
    exact H0.two h (by simp)
  by_cases h2 : n = 2
  · subst h2
    exact ⟨⟨x0, x1, 0, y0, y1, 0, z0, z1, 4294967296, 0, 0, 0⟩, fun w' h => Axes_2 x0 y0 z0 x1 y1 z1 blk off cap w' (H1.later h), fun w' h => RAxes_2 x0 y0 z0 x1 y1 z1 blk off cap w' (H1.later h)⟩
  obtain ⟨x2, y2, z2, e2⟩ := sl.q 2 (by omega)
  have H2 : Has blk off [.int .i64 x0, .int .i64 y0, .int .i64 z0, .int .i64 x1, .int .i64 y1, .int .i64 z1, .int .i64 x2, .int .i64 y2, .int .i64 z2] w := by
    have h := hr 2 (by omega)
    rw [e2] at h
    exact H1.two h (by simp)
  by_cases h3 : n = 3
  · subst h3
    exact ⟨⟨x0, x1, x2, y0, y1, y2, z0, z1, z2, 0, 0, 0⟩, fun w' h => Axes_3 x0 y0 z0 x1 y1 z1 x2 y2 z2 blk off cap w' (H2.later h), fun w' h => RAxes_3 x0 y0 z0 x1 y1 z1 x2 y2 z2 blk off cap w' (H2.later h)⟩
  obtain ⟨x3, y3, z3, e3⟩ := sl.q 3 (by omega)
  have H3 : Has blk off [.int .i64 x0, .int .i64 y0, .int .i64 z0, .int .i64 x1, .int .i64 y1, .int .i64 z1, .int .i64 x2, .int .i64 y2, .int .i64 z2, .int .i64 x3, .int .i64 y3, .int .i64 z3] w := by
    have h := hr 3 (by omega)
    rw [e3] at h
    exact H2.two h (by simp)
  exact ⟨⟨x0, x1, x2, y0, y1, y2, z0, z1, z2, x3, y3, z3⟩, fun w' h => Axes_4 x0 y0 z0 x1 y1 z1 x2 y2 z2 x3 y3 z3 blk off n cap (by omega) w' (H3.later h), fun w' h => RAxes_4 x0 y0 z0 x1 y1 z1 x2 y2 z2 x3 y3 z3 blk off n cap (by omega) w' (H3.later h)⟩

theorem min6 (n : Nat) : (if (6 : Int) < (n : Int) then (6 : Int) else (n : Int)) = ((min n 6 : Nat) : Int) := by
  rw [Nat.min_def]
  split <;> split <;> omega
theorem Makes_law (p : Option Addr) (n1 c1 : Nat) (f : Nat → List Value) (q : Option Addr) (n2 c2 : Nat) (g : Nat → List Value) (x y z : Int) (w : World) (sl : Sl w p n1 c1 1 f isFix) (gl : Sl w q n2 c2 3 g isVec) :
    Calls Try.prog 12 #[.slice p n1 c1, .slice q n2 c2, (.agg #[.int .i64 x, .int .i64 y, .int .i64 z])] w fun e w' => e = .returned (.bool true) ∧ Below w.heap.size w w' := by
  obtain ⟨RS, a, b⟩ := size_both p (min n1 6) c1 f w (sl.take (Nat.min_le_left _ _))
  obtain ⟨RX, c, d⟩ := axes_both q (min n2 6) c2 g w (gl.take (Nat.min_le_left _ _))
  exact Makes_core RS RX x y z p q n1 c1 n2 c2 sl.le sl.max gl.le gl.max (min n1 6) (min n2 6) (min6 n1) (min6 n2) (Nat.le_trans (Nat.min_le_left _ _) sl.le) (Nat.le_trans (Nat.min_le_left _ _) gl.le) w
    (Lib.hid Same_any) (Lib.hid RSame_any) (Lib.hid (Move_any x y z)) (Lib.hid (RMove_any x y z)) (Lib.hid a) (Lib.hid b) (Lib.hid c) (Lib.hid d) (Lib.hid works_any)
end Go.Proofs.Ytgggngcgcpmkbaa

/- PBMakes -/
namespace Go.Proofs.Ytgggngcgcpmkbaa.affineMakes
set_option linter.unusedVariables false
set_option maxRecDepth 2000
open Go.ChangeShapes Go.WideShapes Go.ChangeAt Go.RowKit Go.Joins

theorem own : ownKnob Try.prog.godebug = none := by kernel_rfl
theorem laidOut : laidOutB Try.prog = true := by kernel_rfl

set_option maxRecDepth 100000 in
theorem lifted (os : Os) (started : os.Started) (H : Type) (enc : TypeId × Value → H) :
    ReturnsInHanded {} Try.checked os 12 .any (Rows.affineMakesSpec.pre6 enc Try.prog Try.f12 Rows.affineMakesRow.domain false) (Rows.affineMakesSpec.post enc Try.prog Try.f12 false true false false) := by
  refine returnsInHanded_of_change (C := Try.checked) own started (by kernel_rfl) Try.func12
    (ChangeSpec.witness6 (enc := enc) (C := Try.checked) false ⟨#[], #[.slice none 0 0, .slice none 0 0, .agg #[.int .i64 0, .int .i64 0, .int .i64 0]], []⟩ 8 (by kernel_rfl) (by kernel_rfl) (by kernel_rfl) (by kernel_rfl)) ?_
  intro W base args ds gs before hval0 hW _ _
  have hval : ∀ (j : Nat) t v, Try.f12.params[j]? = some t → args[j]? = some v → Value.okWide Try.prog W .any base t v := hval0
  have hW' := hW
  obtain ⟨p, q, hA0, hV, rfl, _, _⟩ := hW
  have hA : DataW.TrodAll enc Try.prog W 0 (fun _ => true) true Try.f12.params.toList args.toList ds p := hA0
  rw [Try.params12] at hA hval
  obtain ⟨v0, v1, v2, d0, d1, d2, p0, p1, p2, rfl, rfl, rfl, g0, g1, g2⟩ := trodAll_three hA
  obtain ⟨rfl, rfl⟩ := trodVars_none hV
  simp only [List.append_nil] at hW'
  obtain ⟨c20, c21, c22, rfl, b20, b21, b22⟩ := open_three Try.underlying36 (by kernel_rfl) (by kernel_rfl) Try.underlying34 Try.underlying34 Try.underlying34 (hval 2 36 v2 rfl rfl) g2
  clear hA0
  have lt0 : ∀ x ∈ p0, x.block < W.heap.size := fun x hx => by simpa using hW'.lt x (by simp [hx])
  have st0 := fun (W' : World) (hn : Below W.heap.size W W') => Below.trod laidOut (by kernel_rfl) (of_decide_eq_true (by kernel_rfl)) g0 hn lt0
  have lt1 : ∀ x ∈ p1, x.block < W.heap.size := fun x hx => by simpa using hW'.lt x (by simp [hx])
  have st1 := fun (W' : World) (hn : Below W.heap.size W W') => Below.trod laidOut (by kernel_rfl) (of_decide_eq_true (by kernel_rfl)) g1 hn lt1
  have lt2 : ∀ x ∈ p2, x.block < W.heap.size := fun x hx => by simpa using hW'.lt x (by simp [hx])
  have st2 := fun (W' : World) (hn : Below W.heap.size W W') => Below.trod laidOut (by kernel_rfl) (of_decide_eq_true (by kernel_rfl)) g2 hn lt2
  obtain ⟨p0_, n0, c0, f0, rfl, sl0⟩ := open_sl (S := 1) isFix Try.underlying76 (by kernel_rfl) (by decide) (fun fuel cs x hx hl => cs_fix hx) (hval 0 76 v0 rfl rfl) g0 lt0
  obtain ⟨p1_, n1, c1, f1, rfl, sl1⟩ := open_sl (S := 3) isVec Try.underlying77 (by kernel_rfl) (by decide) (fun fuel cs x hx hl => cs_vec hx) (hval 1 77 v1 rfl rfl) g1 lt1
  clear hval hval0
  refine (Makes_law p0_ n0 c0 f0 p1_ n1 c1 f1 c20 c21 c22 W sl0 sl1).mono fun e W' ⟨he, hg⟩ => ?_
  subst he
  exact ⟨_, rfl, _, _, _, [], _, [], hW', trodAll_mk1 (shut_bool Try.underlying4 _), trodAll_mk3 (st0 _ hg) (st1 _ hg) (st2 _ hg), rfl, hg.frame _, fun h => by cases h⟩

theorem proved : Rows.AffineMakesSaid :=
  OpenClaim.holds_of_wide 12 Try.f12 rfl rfl rfl rfl rfl rfl rfl ⟨rfl, rfl, rfl, rfl, rfl⟩ rfl rfl rfl rfl rfl (by kernel_rfl) Try.func12 (by kernel_rfl)
    (of_decide_eq_true (by kernel_rfl)) (by unfold Func.isWrapper; first | (rw [if_pos (by decide +kernel)]; kernel_rfl) | (rw [if_neg (by decide +kernel)]; exact ⟨rfl, rfl⟩))
    (fun os started H enc _ => lifted os started H enc)
end Go.Proofs.Ytgggngcgcpmkbaa.affineMakes
