/- AU AY AZ AQ PA BA PBThen, in one text. -/
import Derived.Test.YtgggngcgcpmkbaaKA
import Derived.Test.YtgggngcgcpmkbaaVN
import Derived.Deep.DeepCutAuto
import Derived.LoopN
import Derived.Test.YtgggngcgcpmkbaaAG
import Derived.LoopTactic
import Derived.Test.YtgggngcgcpmkbaaAT
import Derived.Test.YtgggngcgcpmkbaaPG
import Derived.OpenShut
import Derived.ProofKit
import Derived.Test.YtgggngcgcpmkbaaAM
import Derived.Test.YtgggngcgcpmkbaaPS
import Derived.Test.YtgggngcgcpmkbaaRows
import Derived.WalkKit
import Derived.ChangeSlices
import Derived.Lib.SmallJoins
/- AU -/
namespace Go.Proofs.Ytgggngcgcpmkbaa
set_option linter.unusedVariables false
set_option maxRecDepth 2000
set_option linter.unusedSimpArgs false
open Go.RowKit
attribute [local go_sem] setCell_twice setCell_pair

set_option maxHeartbeats 4000000 in
theorem RSame_any (w : World) : Calls Try.prog 48 #[] w fun e w' => e = .returned (.agg #[.int .i64 4294967296, .int .i64 0, .int .i64 0, .int .i64 0, .int .i64 4294967296, .int .i64 0, .int .i64 0, .int .i64 0, .int .i64 4294967296, .int .i64 0, .int .i64 0, .int .i64 0]) ∧ Below w.heap.size w w' := by
  go_enter Try.func48, Try.ntmps48
  go_upto_region 1 with fail
  obtain ⟨W0, hW⟩ : ∃ W0, W0 = (w.alloc (.cells #[.int .i64 0, .int .i64 0, .int .i64 0, .int .i64 0, .int .i64 0, .int .i64 0, .int .i64 0, .int .i64 0, .int .i64 0, .int .i64 0, .int .i64 0, .int .i64 0] 80)) := ⟨_, rfl⟩
  have hB0 : Below w.heap.size w W0 := hW ▸ (Below.al (Below.refl _ _))
  have HR : Hid (Own w.heap.size [.int .i64 0, .int .i64 0, .int .i64 0, .int .i64 0, .int .i64 0, .int .i64 0, .int .i64 0, .int .i64 0, .int .i64 0, .int .i64 0, .int .i64 0, .int .i64 0] W0) := Lib.hid (hW ▸ (Own.newAt (by simp)))
  rw [← hW]
  clear hW
  obtain ⟨R, eR⟩ : ∃ X, X = w.heap.size := ⟨_, rfl⟩
  rw [← eR] at HR ⊢
  have Rw : w.heap.size ≤ R := by omega
  clear eR
  go_upto_region 2 with fail
  obtain ⟨W1, hW⟩ : ∃ W1, W1 = (W0.alloc (.cells #[.int .i64 0, .int .i64 0, .int .i64 0, .int .i64 0, .int .i64 0, .int .i64 0, .int .i64 0, .int .i64 0, .int .i64 0, .int .i64 0, .int .i64 0, .int .i64 0] 80)) := ⟨_, rfl⟩
  have hB1 : Below W0.heap.size W0 W1 := hW ▸ (Below.al (Below.refl _ _))
  have HD : Hid (Own W0.heap.size [.int .i64 0, .int .i64 0, .int .i64 0, .int .i64 0, .int .i64 0, .int .i64 0, .int .i64 0, .int .i64 0, .int .i64 0, .int .i64 0, .int .i64 0, .int .i64 0] W1) := Lib.hid (hW ▸ (Own.newAt (by simp)))
  rw [← hW]
  clear hW
  obtain ⟨D, eD⟩ : ∃ X, X = W0.heap.size := ⟨_, rfl⟩
  rw [← eD] at HD ⊢
  have Dw : W0.heap.size ≤ D := by omega
  clear eD
  have nRD : R ≠ D := by have := HR.out.lt; omega
  replace HR := Lib.hid (HR.out.later hB1)
  have Dww : w.heap.size ≤ D := by have := hB0.size; omega
  have hB2 : Below w.heap.size w W1 := Below.go hB0 hB1
  clear hB0 hB1 Dw
  have oD := HD.out
  have D0 := oD.at 0 _ rfl
  have Df0 := oD.ok 0 (by simp)
  have D1 := oD.at 1 _ rfl
  have Df1 := oD.ok 1 (by simp)
  have D2 := oD.at 2 _ rfl
  have Df2 := oD.ok 2 (by simp)
  have D3 := oD.at 3 _ rfl
  have Df3 := oD.ok 3 (by simp)
  have D4 := oD.at 4 _ rfl
  have Df4 := oD.ok 4 (by simp)
  have D5 := oD.at 5 _ rfl
  have Df5 := oD.ok 5 (by simp)
  have D6 := oD.at 6 _ rfl
  have Df6 := oD.ok 6 (by simp)
  have D7 := oD.at 7 _ rfl
  have Df7 := oD.ok 7 (by simp)
  have D8 := oD.at 8 _ rfl
  have Df8 := oD.ok 8 (by simp)
  have D9 := oD.at 9 _ rfl
  have Df9 := oD.ok 9 (by simp)
  have D10 := oD.at 10 _ rfl
  have Df10 := oD.ok 10 (by simp)
  have D11 := oD.at 11 _ rfl
  have Df11 := oD.ok 11 (by simp)
  have Dl := oD.lt
  clear oD
  go_upto_region 3 with fail
  clear D0 Df0 D1 Df1 D2 Df2 D3 Df3 D4 Df4 D5 Df5 D6 Df6 D7 Df7 D8 Df8 D9 Df9 D10 Df10 D11 Df11 Dl
  have e3 : (((W1.setCell ⟨D, 0, none⟩ (.int .i64 4294967296)).setCell ⟨D, 4, none⟩ (.int .i64 4294967296)).setCell ⟨D, 8, none⟩ (.int .i64 4294967296)) = (((W1.setCells D 0 [.int .i64 4294967296]).setCells D 4 [.int .i64 4294967296]).setCells D 8 [.int .i64 4294967296]) := rfl
  rw [e3]
  have HD3 : Hid (Own D [.int .i64 4294967296, .int .i64 0, .int .i64 0, .int .i64 0, .int .i64 4294967296, .int .i64 0, .int .i64 0, .int .i64 0, .int .i64 4294967296, .int .i64 0, .int .i64 0, .int .i64 0] (((W1.setCells D 0 [.int .i64 4294967296]).setCells D 4 [.int .i64 4294967296]).setCells D 8 [.int .i64 4294967296])) := Lib.hid (show Own D (over (over (over _ 0 [.int .i64 4294967296]) 4 [.int .i64 4294967296]) 8 [.int .i64 4294967296]) _ from Own.part (Own.part (Own.part HD.out (by simp)) (by simp [over])) (by simp [over]))
  have HR3 : Hid (Own R [.int .i64 0, .int .i64 0, .int .i64 0, .int .i64 0, .int .i64 0, .int .i64 0, .int .i64 0, .int .i64 0, .int .i64 0, .int .i64 0, .int .i64 0, .int .i64 0] (((W1.setCells D 0 [.int .i64 4294967296]).setCells D 4 [.int .i64 4294967296]).setCells D 8 [.int .i64 4294967296])) := Lib.hid (((HR.out.far nRD).far nRD).far nRD)
  have hB3 : Below w.heap.size w (((W1.setCells D 0 [.int .i64 4294967296]).setCells D 4 [.int .i64 4294967296]).setCells D 8 [.int .i64 4294967296]) := Below.setCells (Below.setCells (Below.setCells hB2 Dww _ _) Dww _ _) Dww _ _
  generalize (((W1.setCells D 0 [.int .i64 4294967296]).setCells D 4 [.int .i64 4294967296]).setCells D 8 [.int .i64 4294967296]) = W2 at *
  clear HD HR hB2 e3
  have oD := HD3.out
  have D0 := oD.at 0 _ rfl
  have D1 := oD.at 1 _ rfl
  have D2 := oD.at 2 _ rfl
  have D3 := oD.at 3 _ rfl
  have D4 := oD.at 4 _ rfl
  have D5 := oD.at 5 _ rfl
  have D6 := oD.at 6 _ rfl
  have D7 := oD.at 7 _ rfl
  have D8 := oD.at 8 _ rfl
  have D9 := oD.at 9 _ rfl
  have D10 := oD.at 10 _ rfl
  have D11 := oD.at 11 _ rfl
  have Dl := oD.lt
  clear oD
  have oR := HR3.out
  have R0 := oR.at 0 _ rfl
  have Rf0 := oR.ok 0 (by simp)
  have R1 := oR.at 1 _ rfl
  have Rf1 := oR.ok 1 (by simp)
  have R2 := oR.at 2 _ rfl
  have Rf2 := oR.ok 2 (by simp)
  have R3 := oR.at 3 _ rfl
  have Rf3 := oR.ok 3 (by simp)
  have R4 := oR.at 4 _ rfl
  have Rf4 := oR.ok 4 (by simp)
  have R5 := oR.at 5 _ rfl
  have Rf5 := oR.ok 5 (by simp)
  have R6 := oR.at 6 _ rfl
  have Rf6 := oR.ok 6 (by simp)
  have R7 := oR.at 7 _ rfl
  have Rf7 := oR.ok 7 (by simp)
  have R8 := oR.at 8 _ rfl
  have Rf8 := oR.ok 8 (by simp)
  have R9 := oR.at 9 _ rfl
  have Rf9 := oR.ok 9 (by simp)
  have R10 := oR.at 10 _ rfl
  have Rf10 := oR.ok 10 (by simp)
  have R11 := oR.at 11 _ rfl
  have Rf11 := oR.ok 11 (by simp)
  have Rl := oR.lt
  clear oR
  clear HD3 HR3
  go_wp2_with (fail)
  exact bodyPost_ret (v := (.agg #[.int .i64 4294967296, .int .i64 0, .int .i64 0, .int .i64 0, .int .i64 4294967296, .int .i64 0, .int .i64 0, .int .i64 0, .int .i64 4294967296, .int .i64 0, .int .i64 0, .int .i64 0])) (by simp [results, Try.results48, go_sem, R0, R1, R2, R3, R4, R5, R6, R7, R8, R9, R10, R11]) rfl ⟨rfl, by repeat (first | (with_reducible assumption) | (with_reducible exact Below.refl _ _) | (with_reducible refine Below.al ?_) | (with_reducible refine Below.setCell ?_ (by first | assumption | (simp; done) | (simp; omega)) _))⟩

set_option maxHeartbeats 4000000 in
theorem RMove_any (x y z : Int) (w : World) : Calls Try.prog 50 #[(.agg #[.int .i64 x, .int .i64 y, .int .i64 z])] w fun e w' => e = .returned (.agg #[.int .i64 4294967296, .int .i64 0, .int .i64 0, .int .i64 0, .int .i64 4294967296, .int .i64 0, .int .i64 0, .int .i64 0, .int .i64 4294967296, .int .i64 x, .int .i64 y, .int .i64 z]) ∧ Below w.heap.size w w' := by
  have sm := Lib.hid RSame_any
  go_enter Try.func50, Try.ntmps50
  go_upto_region 1 with fail
  obtain ⟨W0, hW⟩ : ∃ W0, W0 = ((w.alloc (.cells #[.int .i64 x, .int .i64 y, .int .i64 z] 36)).alloc (.cells #[.int .i64 0, .int .i64 0, .int .i64 0, .int .i64 0, .int .i64 0, .int .i64 0, .int .i64 0, .int .i64 0, .int .i64 0, .int .i64 0, .int .i64 0, .int .i64 0] 80)) := ⟨_, rfl⟩
  have hB0 : Below w.heap.size w W0 := hW ▸ (Below.al (Below.al (Below.refl _ _)))
  have HV : Hid (Own w.heap.size [.int .i64 x, .int .i64 y, .int .i64 z] W0) := Lib.hid (hW ▸ (Own.newAt (by simp)).alloc)
  have HR : Hid (Own (w.heap.size + 1) [.int .i64 0, .int .i64 0, .int .i64 0, .int .i64 0, .int .i64 0, .int .i64 0, .int .i64 0, .int .i64 0, .int .i64 0, .int .i64 0, .int .i64 0, .int .i64 0] W0) := Lib.hid (hW ▸ (Own.newAt (by simp)))
  rw [← hW]
  clear hW
  obtain ⟨R, eR⟩ : ∃ X, X = (w.heap.size + 1) := ⟨_, rfl⟩
  rw [← eR] at HR ⊢
  have Rw : w.heap.size ≤ R := by omega
  obtain ⟨V, eV⟩ : ∃ X, X = w.heap.size := ⟨_, rfl⟩
  rw [← eV] at HV ⊢
  have Vw : w.heap.size ≤ V := by omega
  have nVR : V ≠ R := by omega
  have nRV : R ≠ V := by omega
  clear eV eR
  go_upto_region 3 with (go_at_call 48; refine (sm.out _).mono ?_; rintro e w1 ⟨rfl, hb⟩; have oV := HV.out.later hb; have v0 := oV.at 0 _ rfl; have v1 := oV.at 1 _ rfl; have v2 := oV.at 2 _ rfl; have hVl := oV.lt; clear oV)
  have HR1 := Lib.hid (HR.out.later hb)
  clear HV HR v0 v1 v2 hVl
  obtain ⟨W1, hW⟩ : ∃ W1, W1 = (w1.alloc (.cells #[.int .i64 4294967296, .int .i64 0, .int .i64 0, .int .i64 0, .int .i64 4294967296, .int .i64 0, .int .i64 0, .int .i64 0, .int .i64 4294967296, .int .i64 x, .int .i64 y, .int .i64 z] 80)) := ⟨_, rfl⟩
  have hB1 : Below w1.heap.size w1 W1 := hW ▸ (Below.al (Below.refl _ _))
  have HN : Hid (Own w1.heap.size [.int .i64 4294967296, .int .i64 0, .int .i64 0, .int .i64 0, .int .i64 4294967296, .int .i64 0, .int .i64 0, .int .i64 0, .int .i64 4294967296, .int .i64 x, .int .i64 y, .int .i64 z] W1) := Lib.hid (hW ▸ (Own.newAt (by simp)))
  rw [← hW]
  clear hW
  obtain ⟨N, eN⟩ : ∃ X, X = w1.heap.size := ⟨_, rfl⟩
  rw [← eN] at HN ⊢
  have Nw : w1.heap.size ≤ N := by omega
  clear eN
  have HR2 := Lib.hid (HR1.out.later hB1)
  have hB2 : Below w.heap.size w W1 := Below.go (Below.go hB0 hb) hB1
  clear HR1 hB1 hb hB0
  have oN := HN.out
  have N0 := oN.at 0 _ rfl
  have N1 := oN.at 1 _ rfl
  have N2 := oN.at 2 _ rfl
  have N3 := oN.at 3 _ rfl
  have N4 := oN.at 4 _ rfl
  have N5 := oN.at 5 _ rfl
  have N6 := oN.at 6 _ rfl
  have N7 := oN.at 7 _ rfl
  have N8 := oN.at 8 _ rfl
  have N9 := oN.at 9 _ rfl
  have N10 := oN.at 10 _ rfl
  have N11 := oN.at 11 _ rfl
  have Nl := oN.lt
  clear oN
  have oR := HR2.out
  have R0 := oR.at 0 _ rfl
  have Rf0 := oR.ok 0 (by simp)
  have R1 := oR.at 1 _ rfl
  have Rf1 := oR.ok 1 (by simp)
  have R2 := oR.at 2 _ rfl
  have Rf2 := oR.ok 2 (by simp)
  have R3 := oR.at 3 _ rfl
  have Rf3 := oR.ok 3 (by simp)
  have R4 := oR.at 4 _ rfl
  have Rf4 := oR.ok 4 (by simp)
  have R5 := oR.at 5 _ rfl
  have Rf5 := oR.ok 5 (by simp)
  have R6 := oR.at 6 _ rfl
  have Rf6 := oR.ok 6 (by simp)
  have R7 := oR.at 7 _ rfl
  have Rf7 := oR.ok 7 (by simp)
  have R8 := oR.at 8 _ rfl
  have Rf8 := oR.ok 8 (by simp)
  have R9 := oR.at 9 _ rfl
  have Rf9 := oR.ok 9 (by simp)
  have R10 := oR.at 10 _ rfl
  have Rf10 := oR.ok 10 (by simp)
  have R11 := oR.at 11 _ rfl
  have Rf11 := oR.ok 11 (by simp)
  have Rl := oR.lt
  clear oR
  clear HN HR2
  go_wp2_with (fail)
  exact bodyPost_ret (v := (.agg #[.int .i64 4294967296, .int .i64 0, .int .i64 0, .int .i64 0, .int .i64 4294967296, .int .i64 0, .int .i64 0, .int .i64 0, .int .i64 4294967296, .int .i64 x, .int .i64 y, .int .i64 z])) (by simp [results, Try.results50, go_sem, R0, R1, R2, R3, R4, R5, R6, R7, R8, R9, R10, R11]) rfl ⟨rfl, by repeat (first | (with_reducible assumption) | (with_reducible exact Below.refl _ _) | (with_reducible refine Below.al ?_) | (with_reducible refine Below.setCell ?_ (by first | assumption | (simp; done) | (simp; omega)) _))⟩
end Go.Proofs.Ytgggngcgcpmkbaa

/- AY -/
namespace Go.Proofs.Ytgggngcgcpmkbaa
set_option linter.unusedVariables false
set_option maxRecDepth 2000
set_option linter.unusedSimpArgs false
open Go.RowKit
attribute [local go_sem] setCell_twice setCell_pair

set_option maxHeartbeats 4000000 in
theorem RAxes_0 (p : Option Addr) (cap : Nat) (w : World) : Calls Try.prog 54 #[.slice p 0 cap] w fun e w' => e = .returned (.agg #[.int .i64 4294967296, .int .i64 0, .int .i64 0, .int .i64 0, .int .i64 4294967296, .int .i64 0, .int .i64 0, .int .i64 0, .int .i64 4294967296, .int .i64 0, .int .i64 0, .int .i64 0]) ∧ Below w.heap.size w w' := by
  have sm := Lib.hid RSame_any
  go_enter Try.func54, Try.ntmps54
  go_upto_region 1 with fail
  obtain ⟨W0, hW⟩ : ∃ W0, W0 = (w.alloc (.cells #[.int .i64 0, .int .i64 0, .int .i64 0, .int .i64 0, .int .i64 0, .int .i64 0, .int .i64 0, .int .i64 0, .int .i64 0, .int .i64 0, .int .i64 0, .int .i64 0] 80)) := ⟨_, rfl⟩
  have hB0 : Below w.heap.size w W0 := hW ▸ (Below.al (Below.refl _ _))
  have HR : Hid (Own w.heap.size [.int .i64 0, .int .i64 0, .int .i64 0, .int .i64 0, .int .i64 0, .int .i64 0, .int .i64 0, .int .i64 0, .int .i64 0, .int .i64 0, .int .i64 0, .int .i64 0] W0) := Lib.hid (hW ▸ (Own.newAt (by simp)))
  rw [← hW]
  clear hW
  obtain ⟨R, eR⟩ : ∃ X, X = w.heap.size := ⟨_, rfl⟩
  rw [← eR] at HR ⊢
  have Rw : w.heap.size ≤ R := by omega
  clear eR
  go_wp2_with (fail)
  go_at_call 48; refine (sm.out _).mono ?_; rintro e w1 ⟨rfl, hb⟩
  replace HR := Lib.hid (HR.out.later hb)
  have hB1 := Below.go hB0 hb
  clear hb hB0 sm
  go_upto_region 2 with fail
  obtain ⟨W1, hW⟩ : ∃ W1, W1 = (w1.alloc (.cells #[.int .i64 4294967296, .int .i64 0, .int .i64 0, .int .i64 0, .int .i64 4294967296, .int .i64 0, .int .i64 0, .int .i64 0, .int .i64 4294967296, .int .i64 0, .int .i64 0, .int .i64 0] 80)) := ⟨_, rfl⟩
  have hq : Below w1.heap.size w1 W1 := hW ▸ (Below.al (Below.refl _ _))
  have HD : Hid (Own w1.heap.size [.int .i64 4294967296, .int .i64 0, .int .i64 0, .int .i64 0, .int .i64 4294967296, .int .i64 0, .int .i64 0, .int .i64 0, .int .i64 4294967296, .int .i64 0, .int .i64 0, .int .i64 0] W1) := Lib.hid (hW ▸ (Own.newAt (by simp)))
  rw [← hW]
  clear hW
  obtain ⟨D, eD⟩ : ∃ X, X = w1.heap.size := ⟨_, rfl⟩
  rw [← eD] at HD ⊢
  have Dw : w1.heap.size ≤ D := by omega
  clear eD
  have nRD : R ≠ D := by have := HR.out.lt; omega
  replace HR := Lib.hid (HR.out.later hq)
  have Dww : w.heap.size ≤ D := by have := hB1.size; omega
  have hB2 : Below w.heap.size w W1 := Below.go hB1 hq
  clear hB1 hq Dw
  have Dw := Dww
  clear Dww
  go_wp2_with (fail)
  refine wp_loop_rounds 4 ?_
  rw [rounds_succ]
  have oD := HD.out
  have D0 := oD.at 0 _ rfl
  have D1 := oD.at 1 _ rfl
  have D2 := oD.at 2 _ rfl
  have D3 := oD.at 3 _ rfl
  have D4 := oD.at 4 _ rfl
  have D5 := oD.at 5 _ rfl
  have D6 := oD.at 6 _ rfl
  have D7 := oD.at 7 _ rfl
  have D8 := oD.at 8 _ rfl
  have D9 := oD.at 9 _ rfl
  have D10 := oD.at 10 _ rfl
  have D11 := oD.at 11 _ rfl
  have Dl := oD.lt
  clear oD
  have oR := HR.out
  have R0 := oR.at 0 _ rfl
  have Rf0 := oR.ok 0 (by simp)
  have R1 := oR.at 1 _ rfl
  have Rf1 := oR.ok 1 (by simp)
  have R2 := oR.at 2 _ rfl
  have Rf2 := oR.ok 2 (by simp)
  have R3 := oR.at 3 _ rfl
  have Rf3 := oR.ok 3 (by simp)
  have R4 := oR.at 4 _ rfl
  have Rf4 := oR.ok 4 (by simp)
  have R5 := oR.at 5 _ rfl
  have Rf5 := oR.ok 5 (by simp)
  have R6 := oR.at 6 _ rfl
  have Rf6 := oR.ok 6 (by simp)
  have R7 := oR.at 7 _ rfl
  have Rf7 := oR.ok 7 (by simp)
  have R8 := oR.at 8 _ rfl
  have Rf8 := oR.ok 8 (by simp)
  have R9 := oR.at 9 _ rfl
  have Rf9 := oR.ok 9 (by simp)
  have R10 := oR.at 10 _ rfl
  have Rf10 := oR.ok 10 (by simp)
  have R11 := oR.at 11 _ rfl
  have Rf11 := oR.ok 11 (by simp)
  have Rl := oR.lt
  clear oR
  go_wp2
  exact bodyPost_ret (v := (.agg #[.int .i64 4294967296, .int .i64 0, .int .i64 0, .int .i64 0, .int .i64 4294967296, .int .i64 0, .int .i64 0, .int .i64 0, .int .i64 4294967296, .int .i64 0, .int .i64 0, .int .i64 0])) (by simp [results, Try.results54, go_sem, R0, R1, R2, R3, R4, R5, R6, R7, R8, R9, R10, R11]) rfl ⟨rfl, by repeat (first | (with_reducible assumption) | (with_reducible refine Below.setCell ?_ (by first | assumption | (simp; omega)) _))⟩

set_option maxHeartbeats 4000000 in
theorem RAxes_1 (x0 y0 z0 : Int) (blk off cap : Nat) (w : World) (hx : Has blk off [.int .i64 x0, .int .i64 y0, .int .i64 z0] w) : Calls Try.prog 54 #[.slice (some ⟨blk, off, none⟩) 1 cap] w fun e w' => e = .returned (.agg #[.int .i64 x0, .int .i64 0, .int .i64 0, .int .i64 y0, .int .i64 4294967296, .int .i64 0, .int .i64 z0, .int .i64 0, .int .i64 4294967296, .int .i64 0, .int .i64 0, .int .i64 0]) ∧ Below w.heap.size w w' := by
  have sm := Lib.hid RSame_any
  have HX := Lib.hid hx
  clear hx
  go_enter Try.func54, Try.ntmps54
  go_upto_region 1 with fail
  obtain ⟨W0, hW⟩ : ∃ W0, W0 = (w.alloc (.cells #[.int .i64 0, .int .i64 0, .int .i64 0, .int .i64 0, .int .i64 0, .int .i64 0, .int .i64 0, .int .i64 0, .int .i64 0, .int .i64 0, .int .i64 0, .int .i64 0] 80)) := ⟨_, rfl⟩
  have hB0 : Below w.heap.size w W0 := hW ▸ (Below.al (Below.refl _ _))
  have HR : Hid (Own w.heap.size [.int .i64 0, .int .i64 0, .int .i64 0, .int .i64 0, .int .i64 0, .int .i64 0, .int .i64 0, .int .i64 0, .int .i64 0, .int .i64 0, .int .i64 0, .int .i64 0] W0) := Lib.hid (hW ▸ (Own.newAt (by simp)))
  rw [← hW]
  clear hW
  obtain ⟨R, eR⟩ : ∃ X, X = w.heap.size := ⟨_, rfl⟩
  rw [← eR] at HR ⊢
  have Rw : w.heap.size ≤ R := by omega
  clear eR
  go_wp2_with (fail)
  go_at_call 48; refine (sm.out _).mono ?_; rintro e w1 ⟨rfl, hb⟩
  replace HR := Lib.hid (HR.out.later hb)
  replace HX := Lib.hid ((HX.out.below hB0 HX.out.lt).later hb)
  have hB1 := Below.go hB0 hb
  clear hb hB0 sm
  go_upto_region 2 with fail
  obtain ⟨W1, hW⟩ : ∃ W1, W1 = (w1.alloc (.cells #[.int .i64 4294967296, .int .i64 0, .int .i64 0, .int .i64 0, .int .i64 4294967296, .int .i64 0, .int .i64 0, .int .i64 0, .int .i64 4294967296, .int .i64 0, .int .i64 0, .int .i64 0] 80)) := ⟨_, rfl⟩
  have hq : Below w1.heap.size w1 W1 := hW ▸ (Below.al (Below.refl _ _))
  have HD : Hid (Own w1.heap.size [.int .i64 4294967296, .int .i64 0, .int .i64 0, .int .i64 0, .int .i64 4294967296, .int .i64 0, .int .i64 0, .int .i64 0, .int .i64 4294967296, .int .i64 0, .int .i64 0, .int .i64 0] W1) := Lib.hid (hW ▸ (Own.newAt (by simp)))
  rw [← hW]
  clear hW
  obtain ⟨D, eD⟩ : ∃ X, X = w1.heap.size := ⟨_, rfl⟩
  rw [← eD] at HD ⊢
  have Dw : w1.heap.size ≤ D := by omega
  clear eD
  have nRD : R ≠ D := by have := HR.out.lt; omega
  have nbD : blk ≠ D := by have := HX.out.lt; omega
  replace HR := Lib.hid (HR.out.later hq)
  replace HX := Lib.hid (HX.out.later hq)
  have Dww : w.heap.size ≤ D := by have := hB1.size; omega
  have hB2 : Below w.heap.size w W1 := Below.go hB1 hq
  clear hB1 hq Dw
  have Dw := Dww
  clear Dww
  go_wp2_with (fail)
  refine wp_loop_rounds 4 ?_
  rw [rounds_succ]
  have oD := HD.out
  have D0 := oD.at 0 _ rfl
  have Df0 := oD.ok 0 (by simp)
  have D3 := oD.at 3 _ rfl
  have Df3 := oD.ok 3 (by simp)
  have D6 := oD.at 6 _ rfl
  have Df6 := oD.ok 6 (by simp)
  have Dl := oD.lt
  clear oD
  have oX := HX.out
  have k0 : W1.cell? ⟨blk, off, none⟩ = some (.int .i64 x0) := oX.at 0 _ rfl
  have k1 : W1.cell? ⟨blk, off + 1, none⟩ = some (.int .i64 y0) := oX.at 1 _ rfl
  have k2 : W1.cell? ⟨blk, off + 2, none⟩ = some (.int .i64 z0) := oX.at 2 _ rfl
  have Xl := oX.lt
  clear oX
  go_wp2_with (fail)
  clear k0 k1 k2 Xl D0 Df0 D3 Df3 D6 Df6 Dl
  rw [show (((W1.setCell ⟨D, 0, none⟩ (.int .i64 x0)).setCell ⟨D, 3, none⟩ (.int .i64 y0)).setCell ⟨D, 6, none⟩ (.int .i64 z0)) = (((W1.setCells D 0 [.int .i64 x0]).setCells D 3 [.int .i64 y0]).setCells D 6 [.int .i64 z0]) from rfl]
  have HDn : Hid (Own D [.int .i64 x0, .int .i64 0, .int .i64 0, .int .i64 y0, .int .i64 4294967296, .int .i64 0, .int .i64 z0, .int .i64 0, .int .i64 4294967296, .int .i64 0, .int .i64 0, .int .i64 0] (((W1.setCells D 0 [.int .i64 x0]).setCells D 3 [.int .i64 y0]).setCells D 6 [.int .i64 z0])) := Lib.hid (show Own D (over (over (over _ 0 [.int .i64 x0]) 3 [.int .i64 y0]) 6 [.int .i64 z0]) _ from Own.part (Own.part (Own.part HD.out (by simp)) (by simp [over])) (by simp [over]))
  have HRn : Hid (Own R [.int .i64 0, .int .i64 0, .int .i64 0, .int .i64 0, .int .i64 0, .int .i64 0, .int .i64 0, .int .i64 0, .int .i64 0, .int .i64 0, .int .i64 0, .int .i64 0] (((W1.setCells D 0 [.int .i64 x0]).setCells D 3 [.int .i64 y0]).setCells D 6 [.int .i64 z0])) := Lib.hid (((HR.out.far nRD).far nRD).far nRD)
  have HXn : Hid (Has blk off [.int .i64 x0, .int .i64 y0, .int .i64 z0] (((W1.setCells D 0 [.int .i64 x0]).setCells D 3 [.int .i64 y0]).setCells D 6 [.int .i64 z0])) := Lib.hid (((HX.out.far nbD).far nbD).far nbD)
  have hBn : Below w.heap.size w (((W1.setCells D 0 [.int .i64 x0]).setCells D 3 [.int .i64 y0]).setCells D 6 [.int .i64 z0]) := Below.setCells (Below.setCells (Below.setCells hB2 Dw _ _) Dw _ _) Dw _ _
  generalize (((W1.setCells D 0 [.int .i64 x0]).setCells D 3 [.int .i64 y0]).setCells D 6 [.int .i64 z0]) = V0 at *
  clear HD HR HX hB2
  have HD := HDn; have HR := HRn; have HX := HXn; have hB0_ := hBn
  clear HDn HRn HXn hBn
  rw [rounds_succ]
  have oD := HD.out
  have D0 := oD.at 0 _ rfl
  have D1 := oD.at 1 _ rfl
  have D2 := oD.at 2 _ rfl
  have D3 := oD.at 3 _ rfl
  have D4 := oD.at 4 _ rfl
  have D5 := oD.at 5 _ rfl
  have D6 := oD.at 6 _ rfl
  have D7 := oD.at 7 _ rfl
  have D8 := oD.at 8 _ rfl
  have D9 := oD.at 9 _ rfl
  have D10 := oD.at 10 _ rfl
  have D11 := oD.at 11 _ rfl
  have Dl := oD.lt
  clear oD
  have oR := HR.out
  have R0 := oR.at 0 _ rfl
  have Rf0 := oR.ok 0 (by simp)
  have R1 := oR.at 1 _ rfl
  have Rf1 := oR.ok 1 (by simp)
  have R2 := oR.at 2 _ rfl
  have Rf2 := oR.ok 2 (by simp)
  have R3 := oR.at 3 _ rfl
  have Rf3 := oR.ok 3 (by simp)
  have R4 := oR.at 4 _ rfl
  have Rf4 := oR.ok 4 (by simp)
  have R5 := oR.at 5 _ rfl
  have Rf5 := oR.ok 5 (by simp)
  have R6 := oR.at 6 _ rfl
  have Rf6 := oR.ok 6 (by simp)
  have R7 := oR.at 7 _ rfl
  have Rf7 := oR.ok 7 (by simp)
  have R8 := oR.at 8 _ rfl
  have Rf8 := oR.ok 8 (by simp)
  have R9 := oR.at 9 _ rfl
  have Rf9 := oR.ok 9 (by simp)
  have R10 := oR.at 10 _ rfl
  have Rf10 := oR.ok 10 (by simp)
  have R11 := oR.at 11 _ rfl
  have Rf11 := oR.ok 11 (by simp)
  have Rl := oR.lt
  clear oR
  go_wp2
  exact bodyPost_ret (v := (.agg #[.int .i64 x0, .int .i64 0, .int .i64 0, .int .i64 y0, .int .i64 4294967296, .int .i64 0, .int .i64 z0, .int .i64 0, .int .i64 4294967296, .int .i64 0, .int .i64 0, .int .i64 0])) (by simp [results, Try.results54, go_sem, R0, R1, R2, R3, R4, R5, R6, R7, R8, R9, R10, R11]) rfl ⟨rfl, by repeat (first | (with_reducible assumption) | (with_reducible refine Below.setCell ?_ (by first | assumption | (simp; omega)) _))⟩

set_option maxHeartbeats 4000000 in
theorem RAxes_2 (x0 y0 z0 x1 y1 z1 : Int) (blk off cap : Nat) (w : World) (hx : Has blk off [.int .i64 x0, .int .i64 y0, .int .i64 z0, .int .i64 x1, .int .i64 y1, .int .i64 z1] w) : Calls Try.prog 54 #[.slice (some ⟨blk, off, none⟩) 2 cap] w fun e w' => e = .returned (.agg #[.int .i64 x0, .int .i64 x1, .int .i64 0, .int .i64 y0, .int .i64 y1, .int .i64 0, .int .i64 z0, .int .i64 z1, .int .i64 4294967296, .int .i64 0, .int .i64 0, .int .i64 0]) ∧ Below w.heap.size w w' := by
  have sm := Lib.hid RSame_any
  have HX := Lib.hid hx
  clear hx
  go_enter Try.func54, Try.ntmps54
  go_upto_region 1 with fail
  obtain ⟨W0, hW⟩ : ∃ W0, W0 = (w.alloc (.cells #[.int .i64 0, .int .i64 0, .int .i64 0, .int .i64 0, .int .i64 0, .int .i64 0, .int .i64 0, .int .i64 0, .int .i64 0, .int .i64 0, .int .i64 0, .int .i64 0] 80)) := ⟨_, rfl⟩
  have hB0 : Below w.heap.size w W0 := hW ▸ (Below.al (Below.refl _ _))
  have HR : Hid (Own w.heap.size [.int .i64 0, .int .i64 0, .int .i64 0, .int .i64 0, .int .i64 0, .int .i64 0, .int .i64 0, .int .i64 0, .int .i64 0, .int .i64 0, .int .i64 0, .int .i64 0] W0) := Lib.hid (hW ▸ (Own.newAt (by simp)))
  rw [← hW]
  clear hW
  obtain ⟨R, eR⟩ : ∃ X, X = w.heap.size := ⟨_, rfl⟩
  rw [← eR] at HR ⊢
  have Rw : w.heap.size ≤ R := by omega
  clear eR
  go_wp2_with (fail)
  go_at_call 48; refine (sm.out _).mono ?_; rintro e w1 ⟨rfl, hb⟩
  replace HR := Lib.hid (HR.out.later hb)
  replace HX := Lib.hid ((HX.out.below hB0 HX.out.lt).later hb)
  have hB1 := Below.go hB0 hb
  clear hb hB0 sm
  go_upto_region 2 with fail
  obtain ⟨W1, hW⟩ : ∃ W1, W1 = (w1.alloc (.cells #[.int .i64 4294967296, .int .i64 0, .int .i64 0, .int .i64 0, .int .i64 4294967296, .int .i64 0, .int .i64 0, .int .i64 0, .int .i64 4294967296, .int .i64 0, .int .i64 0, .int .i64 0] 80)) := ⟨_, rfl⟩
  have hq : Below w1.heap.size w1 W1 := hW ▸ (Below.al (Below.refl _ _))
  have HD : Hid (Own w1.heap.size [.int .i64 4294967296, .int .i64 0, .int .i64 0, .int .i64 0, .int .i64 4294967296, .int .i64 0, .int .i64 0, .int .i64 0, .int .i64 4294967296, .int .i64 0, .int .i64 0, .int .i64 0] W1) := Lib.hid (hW ▸ (Own.newAt (by simp)))
  rw [← hW]
  clear hW
  obtain ⟨D, eD⟩ : ∃ X, X = w1.heap.size := ⟨_, rfl⟩
  rw [← eD] at HD ⊢
  have Dw : w1.heap.size ≤ D := by omega
  clear eD
  have nRD : R ≠ D := by have := HR.out.lt; omega
  have nbD : blk ≠ D := by have := HX.out.lt; omega
  replace HR := Lib.hid (HR.out.later hq)
  replace HX := Lib.hid (HX.out.later hq)
  have Dww : w.heap.size ≤ D := by have := hB1.size; omega
  have hB2 : Below w.heap.size w W1 := Below.go hB1 hq
  clear hB1 hq Dw
  have Dw := Dww
  clear Dww
  go_wp2_with (fail)
  refine wp_loop_rounds 4 ?_
  rw [rounds_succ]
  have oD := HD.out
  have D0 := oD.at 0 _ rfl
  have Df0 := oD.ok 0 (by simp)
  have D3 := oD.at 3 _ rfl
  have Df3 := oD.ok 3 (by simp)
  have D6 := oD.at 6 _ rfl
  have Df6 := oD.ok 6 (by simp)
  have Dl := oD.lt
  clear oD
  have oX := HX.out
  have k0 : W1.cell? ⟨blk, off, none⟩ = some (.int .i64 x0) := oX.at 0 _ rfl
  have k1 : W1.cell? ⟨blk, off + 1, none⟩ = some (.int .i64 y0) := oX.at 1 _ rfl
  have k2 : W1.cell? ⟨blk, off + 2, none⟩ = some (.int .i64 z0) := oX.at 2 _ rfl
  have Xl := oX.lt
  clear oX
  go_wp2_with (fail)
  clear k0 k1 k2 Xl D0 Df0 D3 Df3 D6 Df6 Dl
  rw [show (((W1.setCell ⟨D, 0, none⟩ (.int .i64 x0)).setCell ⟨D, 3, none⟩ (.int .i64 y0)).setCell ⟨D, 6, none⟩ (.int .i64 z0)) = (((W1.setCells D 0 [.int .i64 x0]).setCells D 3 [.int .i64 y0]).setCells D 6 [.int .i64 z0]) from rfl]
  have HDn : Hid (Own D [.int .i64 x0, .int .i64 0, .int .i64 0, .int .i64 y0, .int .i64 4294967296, .int .i64 0, .int .i64 z0, .int .i64 0, .int .i64 4294967296, .int .i64 0, .int .i64 0, .int .i64 0] (((W1.setCells D 0 [.int .i64 x0]).setCells D 3 [.int .i64 y0]).setCells D 6 [.int .i64 z0])) := Lib.hid (show Own D (over (over (over _ 0 [.int .i64 x0]) 3 [.int .i64 y0]) 6 [.int .i64 z0]) _ from Own.part (Own.part (Own.part HD.out (by simp)) (by simp [over])) (by simp [over]))
  have HRn : Hid (Own R [.int .i64 0, .int .i64 0, .int .i64 0, .int .i64 0, .int .i64 0, .int .i64 0, .int .i64 0, .int .i64 0, .int .i64 0, .int .i64 0, .int .i64 0, .int .i64 0] (((W1.setCells D 0 [.int .i64 x0]).setCells D 3 [.int .i64 y0]).setCells D 6 [.int .i64 z0])) := Lib.hid (((HR.out.far nRD).far nRD).far nRD)
  have HXn : Hid (Has blk off [.int .i64 x0, .int .i64 y0, .int .i64 z0, .int .i64 x1, .int .i64 y1, .int .i64 z1] (((W1.setCells D 0 [.int .i64 x0]).setCells D 3 [.int .i64 y0]).setCells D 6 [.int .i64 z0])) := Lib.hid (((HX.out.far nbD).far nbD).far nbD)
  have hBn : Below w.heap.size w (((W1.setCells D 0 [.int .i64 x0]).setCells D 3 [.int .i64 y0]).setCells D 6 [.int .i64 z0]) := Below.setCells (Below.setCells (Below.setCells hB2 Dw _ _) Dw _ _) Dw _ _
  generalize (((W1.setCells D 0 [.int .i64 x0]).setCells D 3 [.int .i64 y0]).setCells D 6 [.int .i64 z0]) = V0 at *
  clear HD HR HX hB2
  have HD := HDn; have HR := HRn; have HX := HXn; have hB0_ := hBn
  clear HDn HRn HXn hBn
  rw [rounds_succ]
  have oD := HD.out
  have D1 := oD.at 1 _ rfl
  have Df1 := oD.ok 1 (by simp)
  have D4 := oD.at 4 _ rfl
  have Df4 := oD.ok 4 (by simp)
  have D7 := oD.at 7 _ rfl
  have Df7 := oD.ok 7 (by simp)
  have Dl := oD.lt
  clear oD
  have oX := HX.out
  have k0 : V0.cell? ⟨blk, off + 3, none⟩ = some (.int .i64 x1) := oX.at 3 _ rfl
  have k1 : V0.cell? ⟨blk, off + 4, none⟩ = some (.int .i64 y1) := oX.at 4 _ rfl
  have k2 : V0.cell? ⟨blk, off + 5, none⟩ = some (.int .i64 z1) := oX.at 5 _ rfl
  have Xl := oX.lt
  clear oX
  go_wp2_with (fail)
  clear k0 k1 k2 Xl D1 Df1 D4 Df4 D7 Df7 Dl
  rw [show (((V0.setCell ⟨D, 1, none⟩ (.int .i64 x1)).setCell ⟨D, 4, none⟩ (.int .i64 y1)).setCell ⟨D, 7, none⟩ (.int .i64 z1)) = (((V0.setCells D 1 [.int .i64 x1]).setCells D 4 [.int .i64 y1]).setCells D 7 [.int .i64 z1]) from rfl]
  have HDn : Hid (Own D [.int .i64 x0, .int .i64 x1, .int .i64 0, .int .i64 y0, .int .i64 y1, .int .i64 0, .int .i64 z0, .int .i64 z1, .int .i64 4294967296, .int .i64 0, .int .i64 0, .int .i64 0] (((V0.setCells D 1 [.int .i64 x1]).setCells D 4 [.int .i64 y1]).setCells D 7 [.int .i64 z1])) := Lib.hid (show Own D (over (over (over _ 1 [.int .i64 x1]) 4 [.int .i64 y1]) 7 [.int .i64 z1]) _ from Own.part (Own.part (Own.part HD.out (by simp)) (by simp [over])) (by simp [over]))
  have HRn : Hid (Own R [.int .i64 0, .int .i64 0, .int .i64 0, .int .i64 0, .int .i64 0, .int .i64 0, .int .i64 0, .int .i64 0, .int .i64 0, .int .i64 0, .int .i64 0, .int .i64 0] (((V0.setCells D 1 [.int .i64 x1]).setCells D 4 [.int .i64 y1]).setCells D 7 [.int .i64 z1])) := Lib.hid (((HR.out.far nRD).far nRD).far nRD)
  have HXn : Hid (Has blk off [.int .i64 x0, .int .i64 y0, .int .i64 z0, .int .i64 x1, .int .i64 y1, .int .i64 z1] (((V0.setCells D 1 [.int .i64 x1]).setCells D 4 [.int .i64 y1]).setCells D 7 [.int .i64 z1])) := Lib.hid (((HX.out.far nbD).far nbD).far nbD)
  have hBn : Below w.heap.size w (((V0.setCells D 1 [.int .i64 x1]).setCells D 4 [.int .i64 y1]).setCells D 7 [.int .i64 z1]) := Below.setCells (Below.setCells (Below.setCells hB0_ Dw _ _) Dw _ _) Dw _ _
  generalize (((V0.setCells D 1 [.int .i64 x1]).setCells D 4 [.int .i64 y1]).setCells D 7 [.int .i64 z1]) = V1 at *
  clear HD HR HX hB0_
  have HD := HDn; have HR := HRn; have HX := HXn; have hB1_ := hBn
  clear HDn HRn HXn hBn
  rw [rounds_succ]
  have oD := HD.out
  have D0 := oD.at 0 _ rfl
  have D1 := oD.at 1 _ rfl
  have D2 := oD.at 2 _ rfl
  have D3 := oD.at 3 _ rfl
  have D4 := oD.at 4 _ rfl
  have D5 := oD.at 5 _ rfl
  have D6 := oD.at 6 _ rfl
  have D7 := oD.at 7 _ rfl
  have D8 := oD.at 8 _ rfl
  have D9 := oD.at 9 _ rfl
  have D10 := oD.at 10 _ rfl
  have D11 := oD.at 11 _ rfl
  have Dl := oD.lt
  clear oD
  have oR := HR.out
  have R0 := oR.at 0 _ rfl
  have Rf0 := oR.ok 0 (by simp)
  have R1 := oR.at 1 _ rfl
  have Rf1 := oR.ok 1 (by simp)
  have R2 := oR.at 2 _ rfl
  have Rf2 := oR.ok 2 (by simp)
  have R3 := oR.at 3 _ rfl
  have Rf3 := oR.ok 3 (by simp)
  have R4 := oR.at 4 _ rfl
  have Rf4 := oR.ok 4 (by simp)
  have R5 := oR.at 5 _ rfl
  have Rf5 := oR.ok 5 (by simp)
  have R6 := oR.at 6 _ rfl
  have Rf6 := oR.ok 6 (by simp)
  have R7 := oR.at 7 _ rfl
  have Rf7 := oR.ok 7 (by simp)
  have R8 := oR.at 8 _ rfl
  have Rf8 := oR.ok 8 (by simp)
  have R9 := oR.at 9 _ rfl
  have Rf9 := oR.ok 9 (by simp)
  have R10 := oR.at 10 _ rfl
  have Rf10 := oR.ok 10 (by simp)
  have R11 := oR.at 11 _ rfl
  have Rf11 := oR.ok 11 (by simp)
  have Rl := oR.lt
  clear oR
  go_wp2
  exact bodyPost_ret (v := (.agg #[.int .i64 x0, .int .i64 x1, .int .i64 0, .int .i64 y0, .int .i64 y1, .int .i64 0, .int .i64 z0, .int .i64 z1, .int .i64 4294967296, .int .i64 0, .int .i64 0, .int .i64 0])) (by simp [results, Try.results54, go_sem, R0, R1, R2, R3, R4, R5, R6, R7, R8, R9, R10, R11]) rfl ⟨rfl, by repeat (first | (with_reducible assumption) | (with_reducible refine Below.setCell ?_ (by first | assumption | (simp; omega)) _))⟩

set_option maxHeartbeats 4000000 in
theorem RAxes_3 (x0 y0 z0 x1 y1 z1 x2 y2 z2 : Int) (blk off cap : Nat) (w : World) (hx : Has blk off [.int .i64 x0, .int .i64 y0, .int .i64 z0, .int .i64 x1, .int .i64 y1, .int .i64 z1, .int .i64 x2, .int .i64 y2, .int .i64 z2] w) : Calls Try.prog 54 #[.slice (some ⟨blk, off, none⟩) 3 cap] w fun e w' => e = .returned (.agg #[.int .i64 x0, .int .i64 x1, .int .i64 x2, .int .i64 y0, .int .i64 y1, .int .i64 y2, .int .i64 z0, .int .i64 z1, .int .i64 z2, .int .i64 0, .int .i64 0, .int .i64 0]) ∧ Below w.heap.size w w' := by
  have sm := Lib.hid RSame_any
  have HX := Lib.hid hx
  clear hx
  go_enter Try.func54, Try.ntmps54
  go_upto_region 1 with fail
  obtain ⟨W0, hW⟩ : ∃ W0, W0 = (w.alloc (.cells #[.int .i64 0, .int .i64 0, .int .i64 0, .int .i64 0, .int .i64 0, .int .i64 0, .int .i64 0, .int .i64 0, .int .i64 0, .int .i64 0, .int .i64 0, .int .i64 0] 80)) := ⟨_, rfl⟩
  have hB0 : Below w.heap.size w W0 := hW ▸ (Below.al (Below.refl _ _))
  have HR : Hid (Own w.heap.size [.int .i64 0, .int .i64 0, .int .i64 0, .int .i64 0, .int .i64 0, .int .i64 0, .int .i64 0, .int .i64 0, .int .i64 0, .int .i64 0, .int .i64 0, .int .i64 0] W0) := Lib.hid (hW ▸ (Own.newAt (by simp)))
  rw [← hW]
  clear hW
  obtain ⟨R, eR⟩ : ∃ X, X = w.heap.size := ⟨_, rfl⟩
  rw [← eR] at HR ⊢
  have Rw : w.heap.size ≤ R := by omega
  clear eR
  go_wp2_with (fail)
  go_at_call 48; refine (sm.out _).mono ?_; rintro e w1 ⟨rfl, hb⟩
  replace HR := Lib.hid (HR.out.later hb)
  replace HX := Lib.hid ((HX.out.below hB0 HX.out.lt).later hb)
  have hB1 := Below.go hB0 hb
  clear hb hB0 sm
  go_upto_region 2 with fail
  obtain ⟨W1, hW⟩ : ∃ W1, W1 = (w1.alloc (.cells #[.int .i64 4294967296, .int .i64 0, .int .i64 0, .int .i64 0, .int .i64 4294967296, .int .i64 0, .int .i64 0, .int .i64 0, .int .i64 4294967296, .int .i64 0, .int .i64 0, .int .i64 0] 80)) := ⟨_, rfl⟩
  have hq : Below w1.heap.size w1 W1 := hW ▸ (Below.al (Below.refl _ _))
  have HD : Hid (Own w1.heap.size [.int .i64 4294967296, .int .i64 0, .int .i64 0, .int .i64 0, .int .i64 4294967296, .int .i64 0, .int .i64 0, .int .i64 0, .int .i64 4294967296, .int .i64 0, .int .i64 0, .int .i64 0] W1) := Lib.hid (hW ▸ (Own.newAt (by simp)))
  rw [← hW]
  clear hW
  obtain ⟨D, eD⟩ : ∃ X, X = w1.heap.size := ⟨_, rfl⟩
  rw [← eD] at HD ⊢
  have Dw : w1.heap.size ≤ D := by omega
  clear eD
  have nRD : R ≠ D := by have := HR.out.lt; omega
  have nbD : blk ≠ D := by have := HX.out.lt; omega
  replace HR := Lib.hid (HR.out.later hq)
  replace HX := Lib.hid (HX.out.later hq)
  have Dww : w.heap.size ≤ D := by have := hB1.size; omega
  have hB2 : Below w.heap.size w W1 := Below.go hB1 hq
  clear hB1 hq Dw
  have Dw := Dww
  clear Dww
  go_wp2_with (fail)
  refine wp_loop_rounds 4 ?_
  rw [rounds_succ]
  have oD := HD.out
  have D0 := oD.at 0 _ rfl
  have Df0 := oD.ok 0 (by simp)
  have D3 := oD.at 3 _ rfl
  have Df3 := oD.ok 3 (by simp)
  have D6 := oD.at 6 _ rfl
  have Df6 := oD.ok 6 (by simp)
  have Dl := oD.lt
  clear oD
  have oX := HX.out
  have k0 : W1.cell? ⟨blk, off, none⟩ = some (.int .i64 x0) := oX.at 0 _ rfl
  have k1 : W1.cell? ⟨blk, off + 1, none⟩ = some (.int .i64 y0) := oX.at 1 _ rfl
  have k2 : W1.cell? ⟨blk, off + 2, none⟩ = some (.int .i64 z0) := oX.at 2 _ rfl
  have Xl := oX.lt
  clear oX
  go_wp2_with (fail)
  clear k0 k1 k2 Xl D0 Df0 D3 Df3 D6 Df6 Dl
  rw [show (((W1.setCell ⟨D, 0, none⟩ (.int .i64 x0)).setCell ⟨D, 3, none⟩ (.int .i64 y0)).setCell ⟨D, 6, none⟩ (.int .i64 z0)) = (((W1.setCells D 0 [.int .i64 x0]).setCells D 3 [.int .i64 y0]).setCells D 6 [.int .i64 z0]) from rfl]
  have HDn : Hid (Own D [.int .i64 x0, .int .i64 0, .int .i64 0, .int .i64 y0, .int .i64 4294967296, .int .i64 0, .int .i64 z0, .int .i64 0, .int .i64 4294967296, .int .i64 0, .int .i64 0, .int .i64 0] (((W1.setCells D 0 [.int .i64 x0]).setCells D 3 [.int .i64 y0]).setCells D 6 [.int .i64 z0])) := Lib.hid (show Own D (over (over (over _ 0 [.int .i64 x0]) 3 [.int .i64 y0]) 6 [.int .i64 z0]) _ from Own.part (Own.part (Own.part HD.out (by simp)) (by simp [over])) (by simp [over]))
  have HRn : Hid (Own R [.int .i64 0, .int .i64 0, .int .i64 0, .int .i64 0, .int .i64 0, .int .i64 0, .int .i64 0, .int .i64 0, .int .i64 0, .int .i64 0, .int .i64 0, .int .i64 0] (((W1.setCells D 0 [.int .i64 x0]).setCells D 3 [.int .i64 y0]).setCells D 6 [.int .i64 z0])) := Lib.hid (((HR.out.far nRD).far nRD).far nRD)
  have HXn : Hid (Has blk off [.int .i64 x0, .int .i64 y0, .int .i64 z0, .int .i64 x1, .int .i64 y1, .int .i64 z1, .int .i64 x2, .int .i64 y2, .int .i64 z2] (((W1.setCells D 0 [.int .i64 x0]).setCells D 3 [.int .i64 y0]).setCells D 6 [.int .i64 z0])) := Lib.hid (((HX.out.far nbD).far nbD).far nbD)
  have hBn : Below w.heap.size w (((W1.setCells D 0 [.int .i64 x0]).setCells D 3 [.int .i64 y0]).setCells D 6 [.int .i64 z0]) := Below.setCells (Below.setCells (Below.setCells hB2 Dw _ _) Dw _ _) Dw _ _
  generalize (((W1.setCells D 0 [.int .i64 x0]).setCells D 3 [.int .i64 y0]).setCells D 6 [.int .i64 z0]) = V0 at *
  clear HD HR HX hB2
  have HD := HDn; have HR := HRn; have HX := HXn; have hB0_ := hBn
  clear HDn HRn HXn hBn
  rw [rounds_succ]
  have oD := HD.out
  have D1 := oD.at 1 _ rfl
  have Df1 := oD.ok 1 (by simp)
  have D4 := oD.at 4 _ rfl
  have Df4 := oD.ok 4 (by simp)
  have D7 := oD.at 7 _ rfl
  have Df7 := oD.ok 7 (by simp)
  have Dl := oD.lt
  clear oD
  have oX := HX.out
  have k0 : V0.cell? ⟨blk, off + 3, none⟩ = some (.int .i64 x1) := oX.at 3 _ rfl
  have k1 : V0.cell? ⟨blk, off + 4, none⟩ = some (.int .i64 y1) := oX.at 4 _ rfl
  have k2 : V0.cell? ⟨blk, off + 5, none⟩ = some (.int .i64 z1) := oX.at 5 _ rfl
  have Xl := oX.lt
  clear oX
  go_wp2_with (fail)
  clear k0 k1 k2 Xl D1 Df1 D4 Df4 D7 Df7 Dl
  rw [show (((V0.setCell ⟨D, 1, none⟩ (.int .i64 x1)).setCell ⟨D, 4, none⟩ (.int .i64 y1)).setCell ⟨D, 7, none⟩ (.int .i64 z1)) = (((V0.setCells D 1 [.int .i64 x1]).setCells D 4 [.int .i64 y1]).setCells D 7 [.int .i64 z1]) from rfl]
  have HDn : Hid (Own D [.int .i64 x0, .int .i64 x1, .int .i64 0, .int .i64 y0, .int .i64 y1, .int .i64 0, .int .i64 z0, .int .i64 z1, .int .i64 4294967296, .int .i64 0, .int .i64 0, .int .i64 0] (((V0.setCells D 1 [.int .i64 x1]).setCells D 4 [.int .i64 y1]).setCells D 7 [.int .i64 z1])) := Lib.hid (show Own D (over (over (over _ 1 [.int .i64 x1]) 4 [.int .i64 y1]) 7 [.int .i64 z1]) _ from Own.part (Own.part (Own.part HD.out (by simp)) (by simp [over])) (by simp [over]))
  have HRn : Hid (Own R [.int .i64 0, .int .i64 0, .int .i64 0, .int .i64 0, .int .i64 0, .int .i64 0, .int .i64 0, .int .i64 0, .int .i64 0, .int .i64 0, .int .i64 0, .int .i64 0] (((V0.setCells D 1 [.int .i64 x1]).setCells D 4 [.int .i64 y1]).setCells D 7 [.int .i64 z1])) := Lib.hid (((HR.out.far nRD).far nRD).far nRD)
  have HXn : Hid (Has blk off [.int .i64 x0, .int .i64 y0, .int .i64 z0, .int .i64 x1, .int .i64 y1, .int .i64 z1, .int .i64 x2, .int .i64 y2, .int .i64 z2] (((V0.setCells D 1 [.int .i64 x1]).setCells D 4 [.int .i64 y1]).setCells D 7 [.int .i64 z1])) := Lib.hid (((HX.out.far nbD).far nbD).far nbD)
  have hBn : Below w.heap.size w (((V0.setCells D 1 [.int .i64 x1]).setCells D 4 [.int .i64 y1]).setCells D 7 [.int .i64 z1]) := Below.setCells (Below.setCells (Below.setCells hB0_ Dw _ _) Dw _ _) Dw _ _
  generalize (((V0.setCells D 1 [.int .i64 x1]).setCells D 4 [.int .i64 y1]).setCells D 7 [.int .i64 z1]) = V1 at *
  clear HD HR HX hB0_
  have HD := HDn; have HR := HRn; have HX := HXn; have hB1_ := hBn
  clear HDn HRn HXn hBn
  rw [rounds_succ]
  have oD := HD.out
  have D2 := oD.at 2 _ rfl
  have Df2 := oD.ok 2 (by simp)
  have D5 := oD.at 5 _ rfl
  have Df5 := oD.ok 5 (by simp)
  have D8 := oD.at 8 _ rfl
  have Df8 := oD.ok 8 (by simp)
  have Dl := oD.lt
  clear oD
  have oX := HX.out
  have k0 : V1.cell? ⟨blk, off + 6, none⟩ = some (.int .i64 x2) := oX.at 6 _ rfl
  have k1 : V1.cell? ⟨blk, off + 7, none⟩ = some (.int .i64 y2) := oX.at 7 _ rfl
  have k2 : V1.cell? ⟨blk, off + 8, none⟩ = some (.int .i64 z2) := oX.at 8 _ rfl
  have Xl := oX.lt
  clear oX
  go_wp2_with (fail)
  clear k0 k1 k2 Xl D2 Df2 D5 Df5 D8 Df8 Dl
  rw [show (((V1.setCell ⟨D, 2, none⟩ (.int .i64 x2)).setCell ⟨D, 5, none⟩ (.int .i64 y2)).setCell ⟨D, 8, none⟩ (.int .i64 z2)) = (((V1.setCells D 2 [.int .i64 x2]).setCells D 5 [.int .i64 y2]).setCells D 8 [.int .i64 z2]) from rfl]
  have HDn : Hid (Own D [.int .i64 x0, .int .i64 x1, .int .i64 x2, .int .i64 y0, .int .i64 y1, .int .i64 y2, .int .i64 z0, .int .i64 z1, .int .i64 z2, .int .i64 0, .int .i64 0, .int .i64 0] (((V1.setCells D 2 [.int .i64 x2]).setCells D 5 [.int .i64 y2]).setCells D 8 [.int .i64 z2])) := Lib.hid (show Own D (over (over (over _ 2 [.int .i64 x2]) 5 [.int .i64 y2]) 8 [.int .i64 z2]) _ from Own.part (Own.part (Own.part HD.out (by simp)) (by simp [over])) (by simp [over]))
  have HRn : Hid (Own R [.int .i64 0, .int .i64 0, .int .i64 0, .int .i64 0, .int .i64 0, .int .i64 0, .int .i64 0, .int .i64 0, .int .i64 0, .int .i64 0, .int .i64 0, .int .i64 0] (((V1.setCells D 2 [.int .i64 x2]).setCells D 5 [.int .i64 y2]).setCells D 8 [.int .i64 z2])) := Lib.hid (((HR.out.far nRD).far nRD).far nRD)
  have HXn : Hid (Has blk off [.int .i64 x0, .int .i64 y0, .int .i64 z0, .int .i64 x1, .int .i64 y1, .int .i64 z1, .int .i64 x2, .int .i64 y2, .int .i64 z2] (((V1.setCells D 2 [.int .i64 x2]).setCells D 5 [.int .i64 y2]).setCells D 8 [.int .i64 z2])) := Lib.hid (((HX.out.far nbD).far nbD).far nbD)
  have hBn : Below w.heap.size w (((V1.setCells D 2 [.int .i64 x2]).setCells D 5 [.int .i64 y2]).setCells D 8 [.int .i64 z2]) := Below.setCells (Below.setCells (Below.setCells hB1_ Dw _ _) Dw _ _) Dw _ _
  generalize (((V1.setCells D 2 [.int .i64 x2]).setCells D 5 [.int .i64 y2]).setCells D 8 [.int .i64 z2]) = V2 at *
  clear HD HR HX hB1_
  have HD := HDn; have HR := HRn; have HX := HXn; have hB2_ := hBn
  clear HDn HRn HXn hBn
  rw [rounds_succ]
  have oD := HD.out
  have D0 := oD.at 0 _ rfl
  have D1 := oD.at 1 _ rfl
  have D2 := oD.at 2 _ rfl
  have D3 := oD.at 3 _ rfl
  have D4 := oD.at 4 _ rfl
  have D5 := oD.at 5 _ rfl
  have D6 := oD.at 6 _ rfl
  have D7 := oD.at 7 _ rfl
  have D8 := oD.at 8 _ rfl
  have D9 := oD.at 9 _ rfl
  have D10 := oD.at 10 _ rfl
  have D11 := oD.at 11 _ rfl
  have Dl := oD.lt
  clear oD
  have oR := HR.out
  have R0 := oR.at 0 _ rfl
  have Rf0 := oR.ok 0 (by simp)
  have R1 := oR.at 1 _ rfl
  have Rf1 := oR.ok 1 (by simp)
  have R2 := oR.at 2 _ rfl
  have Rf2 := oR.ok 2 (by simp)
  have R3 := oR.at 3 _ rfl
  have Rf3 := oR.ok 3 (by simp)
  have R4 := oR.at 4 _ rfl
  have Rf4 := oR.ok 4 (by simp)
  have R5 := oR.at 5 _ rfl
  have Rf5 := oR.ok 5 (by simp)
  have R6 := oR.at 6 _ rfl
  have Rf6 := oR.ok 6 (by simp)
  have R7 := oR.at 7 _ rfl
  have Rf7 := oR.ok 7 (by simp)
  have R8 := oR.at 8 _ rfl
  have Rf8 := oR.ok 8 (by simp)
  have R9 := oR.at 9 _ rfl
  have Rf9 := oR.ok 9 (by simp)
  have R10 := oR.at 10 _ rfl
  have Rf10 := oR.ok 10 (by simp)
  have R11 := oR.at 11 _ rfl
  have Rf11 := oR.ok 11 (by simp)
  have Rl := oR.lt
  clear oR
  go_wp2
  exact bodyPost_ret (v := (.agg #[.int .i64 x0, .int .i64 x1, .int .i64 x2, .int .i64 y0, .int .i64 y1, .int .i64 y2, .int .i64 z0, .int .i64 z1, .int .i64 z2, .int .i64 0, .int .i64 0, .int .i64 0])) (by simp [results, Try.results54, go_sem, R0, R1, R2, R3, R4, R5, R6, R7, R8, R9, R10, R11]) rfl ⟨rfl, by repeat (first | (with_reducible assumption) | (with_reducible refine Below.setCell ?_ (by first | assumption | (simp; omega)) _))⟩

set_option maxHeartbeats 4000000 in
theorem RAxes_4 (x0 y0 z0 x1 y1 z1 x2 y2 z2 x3 y3 z3 : Int) (blk off n cap : Nat) (hn : 4 ≤ n) (w : World) (hx : Has blk off [.int .i64 x0, .int .i64 y0, .int .i64 z0, .int .i64 x1, .int .i64 y1, .int .i64 z1, .int .i64 x2, .int .i64 y2, .int .i64 z2, .int .i64 x3, .int .i64 y3, .int .i64 z3] w) : Calls Try.prog 54 #[.slice (some ⟨blk, off, none⟩) n cap] w fun e w' => e = .returned (.agg #[.int .i64 x0, .int .i64 x1, .int .i64 x2, .int .i64 y0, .int .i64 y1, .int .i64 y2, .int .i64 z0, .int .i64 z1, .int .i64 z2, .int .i64 x3, .int .i64 y3, .int .i64 z3]) ∧ Below w.heap.size w w' := by
  have sm := Lib.hid RSame_any
  have HX := Lib.hid hx
  clear hx
  go_enter Try.func54, Try.ntmps54
  go_upto_region 1 with fail
  obtain ⟨W0, hW⟩ : ∃ W0, W0 = (w.alloc (.cells #[.int .i64 0, .int .i64 0, .int .i64 0, .int .i64 0, .int .i64 0, .int .i64 0, .int .i64 0, .int .i64 0, .int .i64 0, .int .i64 0, .int .i64 0, .int .i64 0] 80)) := ⟨_, rfl⟩
  have hB0 : Below w.heap.size w W0 := hW ▸ (Below.al (Below.refl _ _))
  have HR : Hid (Own w.heap.size [.int .i64 0, .int .i64 0, .int .i64 0, .int .i64 0, .int .i64 0, .int .i64 0, .int .i64 0, .int .i64 0, .int .i64 0, .int .i64 0, .int .i64 0, .int .i64 0] W0) := Lib.hid (hW ▸ (Own.newAt (by simp)))
  rw [← hW]
  clear hW
  obtain ⟨R, eR⟩ : ∃ X, X = w.heap.size := ⟨_, rfl⟩
  rw [← eR] at HR ⊢
  have Rw : w.heap.size ≤ R := by omega
  clear eR
  go_wp2_with (fail)
  go_at_call 48; refine (sm.out _).mono ?_; rintro e w1 ⟨rfl, hb⟩
  replace HR := Lib.hid (HR.out.later hb)
  replace HX := Lib.hid ((HX.out.below hB0 HX.out.lt).later hb)
  have hB1 := Below.go hB0 hb
  clear hb hB0 sm
  go_upto_region 2 with fail
  obtain ⟨W1, hW⟩ : ∃ W1, W1 = (w1.alloc (.cells #[.int .i64 4294967296, .int .i64 0, .int .i64 0, .int .i64 0, .int .i64 4294967296, .int .i64 0, .int .i64 0, .int .i64 0, .int .i64 4294967296, .int .i64 0, .int .i64 0, .int .i64 0] 80)) := ⟨_, rfl⟩
  have hq : Below w1.heap.size w1 W1 := hW ▸ (Below.al (Below.refl _ _))
  have HD : Hid (Own w1.heap.size [.int .i64 4294967296, .int .i64 0, .int .i64 0, .int .i64 0, .int .i64 4294967296, .int .i64 0, .int .i64 0, .int .i64 0, .int .i64 4294967296, .int .i64 0, .int .i64 0, .int .i64 0] W1) := Lib.hid (hW ▸ (Own.newAt (by simp)))
  rw [← hW]
  clear hW
  obtain ⟨D, eD⟩ : ∃ X, X = w1.heap.size := ⟨_, rfl⟩
  rw [← eD] at HD ⊢
  have Dw : w1.heap.size ≤ D := by omega
  clear eD
  have nRD : R ≠ D := by have := HR.out.lt; omega
  have nbD : blk ≠ D := by have := HX.out.lt; omega
  replace HR := Lib.hid (HR.out.later hq)
  replace HX := Lib.hid (HX.out.later hq)
  have Dww : w.heap.size ≤ D := by have := hB1.size; omega
  have hB2 : Below w.heap.size w W1 := Below.go hB1 hq
  clear hB1 hq Dw
  have Dw := Dww
  clear Dww
  go_wp2_with (fail)
  refine wp_loop_rounds 4 ?_
  rw [rounds_succ]
  have oD := HD.out
  have D0 := oD.at 0 _ rfl
  have Df0 := oD.ok 0 (by simp)
  have D3 := oD.at 3 _ rfl
  have Df3 := oD.ok 3 (by simp)
  have D6 := oD.at 6 _ rfl
  have Df6 := oD.ok 6 (by simp)
  have Dl := oD.lt
  clear oD
  have oX := HX.out
  have k0 : W1.cell? ⟨blk, off, none⟩ = some (.int .i64 x0) := oX.at 0 _ rfl
  have k1 : W1.cell? ⟨blk, off + 1, none⟩ = some (.int .i64 y0) := oX.at 1 _ rfl
  have k2 : W1.cell? ⟨blk, off + 2, none⟩ = some (.int .i64 z0) := oX.at 2 _ rfl
  have Xl := oX.lt
  clear oX
  go_wp2_with (fail)
  clear k0 k1 k2 Xl D0 Df0 D3 Df3 D6 Df6 Dl
  rw [show (((W1.setCell ⟨D, 0, none⟩ (.int .i64 x0)).setCell ⟨D, 3, none⟩ (.int .i64 y0)).setCell ⟨D, 6, none⟩ (.int .i64 z0)) = (((W1.setCells D 0 [.int .i64 x0]).setCells D 3 [.int .i64 y0]).setCells D 6 [.int .i64 z0]) from rfl]
  have HDn : Hid (Own D [.int .i64 x0, .int .i64 0, .int .i64 0, .int .i64 y0, .int .i64 4294967296, .int .i64 0, .int .i64 z0, .int .i64 0, .int .i64 4294967296, .int .i64 0, .int .i64 0, .int .i64 0] (((W1.setCells D 0 [.int .i64 x0]).setCells D 3 [.int .i64 y0]).setCells D 6 [.int .i64 z0])) := Lib.hid (show Own D (over (over (over _ 0 [.int .i64 x0]) 3 [.int .i64 y0]) 6 [.int .i64 z0]) _ from Own.part (Own.part (Own.part HD.out (by simp)) (by simp [over])) (by simp [over]))
  have HRn : Hid (Own R [.int .i64 0, .int .i64 0, .int .i64 0, .int .i64 0, .int .i64 0, .int .i64 0, .int .i64 0, .int .i64 0, .int .i64 0, .int .i64 0, .int .i64 0, .int .i64 0] (((W1.setCells D 0 [.int .i64 x0]).setCells D 3 [.int .i64 y0]).setCells D 6 [.int .i64 z0])) := Lib.hid (((HR.out.far nRD).far nRD).far nRD)
  have HXn : Hid (Has blk off [.int .i64 x0, .int .i64 y0, .int .i64 z0, .int .i64 x1, .int .i64 y1, .int .i64 z1, .int .i64 x2, .int .i64 y2, .int .i64 z2, .int .i64 x3, .int .i64 y3, .int .i64 z3] (((W1.setCells D 0 [.int .i64 x0]).setCells D 3 [.int .i64 y0]).setCells D 6 [.int .i64 z0])) := Lib.hid (((HX.out.far nbD).far nbD).far nbD)
  have hBn : Below w.heap.size w (((W1.setCells D 0 [.int .i64 x0]).setCells D 3 [.int .i64 y0]).setCells D 6 [.int .i64 z0]) := Below.setCells (Below.setCells (Below.setCells hB2 Dw _ _) Dw _ _) Dw _ _
  generalize (((W1.setCells D 0 [.int .i64 x0]).setCells D 3 [.int .i64 y0]).setCells D 6 [.int .i64 z0]) = V0 at *
  clear HD HR HX hB2
  have HD := HDn; have HR := HRn; have HX := HXn; have hB0_ := hBn
  clear HDn HRn HXn hBn
  rw [rounds_succ]
  have oD := HD.out
  have D1 := oD.at 1 _ rfl
  have Df1 := oD.ok 1 (by simp)
  have D4 := oD.at 4 _ rfl
  have Df4 := oD.ok 4 (by simp)
  have D7 := oD.at 7 _ rfl
  have Df7 := oD.ok 7 (by simp)
  have Dl := oD.lt
  clear oD
  have oX := HX.out
  have k0 : V0.cell? ⟨blk, off + 3, none⟩ = some (.int .i64 x1) := oX.at 3 _ rfl
  have k1 : V0.cell? ⟨blk, off + 4, none⟩ = some (.int .i64 y1) := oX.at 4 _ rfl
  have k2 : V0.cell? ⟨blk, off + 5, none⟩ = some (.int .i64 z1) := oX.at 5 _ rfl
  have Xl := oX.lt
  clear oX
  go_wp2_with (fail)
  clear k0 k1 k2 Xl D1 Df1 D4 Df4 D7 Df7 Dl
  rw [show (((V0.setCell ⟨D, 1, none⟩ (.int .i64 x1)).setCell ⟨D, 4, none⟩ (.int .i64 y1)).setCell ⟨D, 7, none⟩ (.int .i64 z1)) = (((V0.setCells D 1 [.int .i64 x1]).setCells D 4 [.int .i64 y1]).setCells D 7 [.int .i64 z1]) from rfl]
  have HDn : Hid (Own D [.int .i64 x0, .int .i64 x1, .int .i64 0, .int .i64 y0, .int .i64 y1, .int .i64 0, .int .i64 z0, .int .i64 z1, .int .i64 4294967296, .int .i64 0, .int .i64 0, .int .i64 0] (((V0.setCells D 1 [.int .i64 x1]).setCells D 4 [.int .i64 y1]).setCells D 7 [.int .i64 z1])) := Lib.hid (show Own D (over (over (over _ 1 [.int .i64 x1]) 4 [.int .i64 y1]) 7 [.int .i64 z1]) _ from Own.part (Own.part (Own.part HD.out (by simp)) (by simp [over])) (by simp [over]))
  have HRn : Hid (Own R [.int .i64 0, .int .i64 0, .int .i64 0, .int .i64 0, .int .i64 0, .int .i64 0, .int .i64 0, .int .i64 0, .int .i64 0, .int .i64 0, .int .i64 0, .int .i64 0] (((V0.setCells D 1 [.int .i64 x1]).setCells D 4 [.int .i64 y1]).setCells D 7 [.int .i64 z1])) := Lib.hid (((HR.out.far nRD).far nRD).far nRD)
  have HXn : Hid (Has blk off [.int .i64 x0, .int .i64 y0, .int .i64 z0, .int .i64 x1, .int .i64 y1, .int .i64 z1, .int .i64 x2, .int .i64 y2, .int .i64 z2, .int .i64 x3, .int .i64 y3, .int .i64 z3] (((V0.setCells D 1 [.int .i64 x1]).setCells D 4 [.int .i64 y1]).setCells D 7 [.int .i64 z1])) := Lib.hid (((HX.out.far nbD).far nbD).far nbD)
  have hBn : Below w.heap.size w (((V0.setCells D 1 [.int .i64 x1]).setCells D 4 [.int .i64 y1]).setCells D 7 [.int .i64 z1]) := Below.setCells (Below.setCells (Below.setCells hB0_ Dw _ _) Dw _ _) Dw _ _
  generalize (((V0.setCells D 1 [.int .i64 x1]).setCells D 4 [.int .i64 y1]).setCells D 7 [.int .i64 z1]) = V1 at *
  clear HD HR HX hB0_
  have HD := HDn; have HR := HRn; have HX := HXn; have hB1_ := hBn
  clear HDn HRn HXn hBn
  rw [rounds_succ]
  have oD := HD.out
  have D2 := oD.at 2 _ rfl
  have Df2 := oD.ok 2 (by simp)
  have D5 := oD.at 5 _ rfl
  have Df5 := oD.ok 5 (by simp)
  have D8 := oD.at 8 _ rfl
  have Df8 := oD.ok 8 (by simp)
  have Dl := oD.lt
  clear oD
  have oX := HX.out
  have k0 : V1.cell? ⟨blk, off + 6, none⟩ = some (.int .i64 x2) := oX.at 6 _ rfl
  have k1 : V1.cell? ⟨blk, off + 7, none⟩ = some (.int .i64 y2) := oX.at 7 _ rfl
  have k2 : V1.cell? ⟨blk, off + 8, none⟩ = some (.int .i64 z2) := oX.at 8 _ rfl
  have Xl := oX.lt
  clear oX
  go_wp2_with (fail)
  clear k0 k1 k2 Xl D2 Df2 D5 Df5 D8 Df8 Dl
  rw [show (((V1.setCell ⟨D, 2, none⟩ (.int .i64 x2)).setCell ⟨D, 5, none⟩ (.int .i64 y2)).setCell ⟨D, 8, none⟩ (.int .i64 z2)) = (((V1.setCells D 2 [.int .i64 x2]).setCells D 5 [.int .i64 y2]).setCells D 8 [.int .i64 z2]) from rfl]
  have HDn : Hid (Own D [.int .i64 x0, .int .i64 x1, .int .i64 x2, .int .i64 y0, .int .i64 y1, .int .i64 y2, .int .i64 z0, .int .i64 z1, .int .i64 z2, .int .i64 0, .int .i64 0, .int .i64 0] (((V1.setCells D 2 [.int .i64 x2]).setCells D 5 [.int .i64 y2]).setCells D 8 [.int .i64 z2])) := Lib.hid (show Own D (over (over (over _ 2 [.int .i64 x2]) 5 [.int .i64 y2]) 8 [.int .i64 z2]) _ from Own.part (Own.part (Own.part HD.out (by simp)) (by simp [over])) (by simp [over]))
  have HRn : Hid (Own R [.int .i64 0, .int .i64 0, .int .i64 0, .int .i64 0, .int .i64 0, .int .i64 0, .int .i64 0, .int .i64 0, .int .i64 0, .int .i64 0, .int .i64 0, .int .i64 0] (((V1.setCells D 2 [.int .i64 x2]).setCells D 5 [.int .i64 y2]).setCells D 8 [.int .i64 z2])) := Lib.hid (((HR.out.far nRD).far nRD).far nRD)
  have HXn : Hid (Has blk off [.int .i64 x0, .int .i64 y0, .int .i64 z0, .int .i64 x1, .int .i64 y1, .int .i64 z1, .int .i64 x2, .int .i64 y2, .int .i64 z2, .int .i64 x3, .int .i64 y3, .int .i64 z3] (((V1.setCells D 2 [.int .i64 x2]).setCells D 5 [.int .i64 y2]).setCells D 8 [.int .i64 z2])) := Lib.hid (((HX.out.far nbD).far nbD).far nbD)
  have hBn : Below w.heap.size w (((V1.setCells D 2 [.int .i64 x2]).setCells D 5 [.int .i64 y2]).setCells D 8 [.int .i64 z2]) := Below.setCells (Below.setCells (Below.setCells hB1_ Dw _ _) Dw _ _) Dw _ _
  generalize (((V1.setCells D 2 [.int .i64 x2]).setCells D 5 [.int .i64 y2]).setCells D 8 [.int .i64 z2]) = V2 at *
  clear HD HR HX hB1_
  have HD := HDn; have HR := HRn; have HX := HXn; have hB2_ := hBn
  clear HDn HRn HXn hBn
  rw [rounds_succ]
  have oD := HD.out
  have D9 := oD.at 9 _ rfl
  have Df9 := oD.ok 9 (by simp)
  have D10 := oD.at 10 _ rfl
  have Df10 := oD.ok 10 (by simp)
  have D11 := oD.at 11 _ rfl
  have Df11 := oD.ok 11 (by simp)
  have Dl := oD.lt
  clear oD
  have oX := HX.out
  have k0 : V2.cell? ⟨blk, off + 9, none⟩ = some (.int .i64 x3) := oX.at 9 _ rfl
  have k1 : V2.cell? ⟨blk, off + 10, none⟩ = some (.int .i64 y3) := oX.at 10 _ rfl
  have k2 : V2.cell? ⟨blk, off + 11, none⟩ = some (.int .i64 z3) := oX.at 11 _ rfl
  have Xl := oX.lt
  clear oX
  go_upto_region 10 with fail
  clear k0 k1 k2 Xl D9 D10 D11 Df9 Df10 Df11 Dl
  rw [show (((V2.setCell ⟨D, 9, none⟩ (.int .i64 x3)).setCell ⟨D, 10, none⟩ (.int .i64 y3)).setCell ⟨D, 11, none⟩ (.int .i64 z3)) = V2.setCells D 9 [.int .i64 x3, .int .i64 y3, .int .i64 z3] from rfl]
  have HDn : Hid (Own D [.int .i64 x0, .int .i64 x1, .int .i64 x2, .int .i64 y0, .int .i64 y1, .int .i64 y2, .int .i64 z0, .int .i64 z1, .int .i64 z2, .int .i64 x3, .int .i64 y3, .int .i64 z3] (V2.setCells D 9 [.int .i64 x3, .int .i64 y3, .int .i64 z3])) := Lib.hid (show Own D (over _ 9 [.int .i64 x3, .int .i64 y3, .int .i64 z3]) _ from Own.part HD.out (by simp))
  have HRn : Hid (Own R [.int .i64 0, .int .i64 0, .int .i64 0, .int .i64 0, .int .i64 0, .int .i64 0, .int .i64 0, .int .i64 0, .int .i64 0, .int .i64 0, .int .i64 0, .int .i64 0] (V2.setCells D 9 [.int .i64 x3, .int .i64 y3, .int .i64 z3])) := Lib.hid (HR.out.far nRD)
  have hBn : Below w.heap.size w (V2.setCells D 9 [.int .i64 x3, .int .i64 y3, .int .i64 z3]) := Below.setCells hB2_ Dw _ _
  generalize (V2.setCells D 9 [.int .i64 x3, .int .i64 y3, .int .i64 z3]) = V4 at *
  clear HD HR HX hB2_
  have HD := HDn; have HR := HRn; have hB4_ := hBn
  clear HDn HRn hBn
  have oD := HD.out
  have D0 := oD.at 0 _ rfl
  have D1 := oD.at 1 _ rfl
  have D2 := oD.at 2 _ rfl
  have D3 := oD.at 3 _ rfl
  have D4 := oD.at 4 _ rfl
  have D5 := oD.at 5 _ rfl
  have D6 := oD.at 6 _ rfl
  have D7 := oD.at 7 _ rfl
  have D8 := oD.at 8 _ rfl
  have D9 := oD.at 9 _ rfl
  have D10 := oD.at 10 _ rfl
  have D11 := oD.at 11 _ rfl
  have Dl := oD.lt
  clear oD
  have oR := HR.out
  have R0 := oR.at 0 _ rfl
  have Rf0 := oR.ok 0 (by simp)
  have R1 := oR.at 1 _ rfl
  have Rf1 := oR.ok 1 (by simp)
  have R2 := oR.at 2 _ rfl
  have Rf2 := oR.ok 2 (by simp)
  have R3 := oR.at 3 _ rfl
  have Rf3 := oR.ok 3 (by simp)
  have R4 := oR.at 4 _ rfl
  have Rf4 := oR.ok 4 (by simp)
  have R5 := oR.at 5 _ rfl
  have Rf5 := oR.ok 5 (by simp)
  have R6 := oR.at 6 _ rfl
  have Rf6 := oR.ok 6 (by simp)
  have R7 := oR.at 7 _ rfl
  have Rf7 := oR.ok 7 (by simp)
  have R8 := oR.at 8 _ rfl
  have Rf8 := oR.ok 8 (by simp)
  have R9 := oR.at 9 _ rfl
  have Rf9 := oR.ok 9 (by simp)
  have R10 := oR.at 10 _ rfl
  have Rf10 := oR.ok 10 (by simp)
  have R11 := oR.at 11 _ rfl
  have Rf11 := oR.ok 11 (by simp)
  have Rl := oR.lt
  clear oR
  go_wp2
  exact bodyPost_ret (v := (.agg #[.int .i64 x0, .int .i64 x1, .int .i64 x2, .int .i64 y0, .int .i64 y1, .int .i64 y2, .int .i64 z0, .int .i64 z1, .int .i64 z2, .int .i64 x3, .int .i64 y3, .int .i64 z3])) (by simp [results, Try.results54, go_sem, R0, R1, R2, R3, R4, R5, R6, R7, R8, R9, R10, R11]) rfl ⟨rfl, by repeat (first | (with_reducible assumption) | (with_reducible refine Below.setCell ?_ (by first | assumption | (simp; omega)) _))⟩
end Go.Proofs.Ytgggngcgcpmkbaa

/- AZ -/
namespace Go.Proofs.Ytgggngcgcpmkbaa
set_option linter.unusedVariables false
set_option maxRecDepth 2000
set_option linter.unusedSimpArgs false
open Go.RowKit
attribute [local go_sem] setCell_twice setCell_pair

theorem infoVec12 : (Try.prog.info? 36).map (fun i => (i.zero, i.size, i.bytes)) = some (some (.agg #[.int .i64 0, .int .i64 0, .int .i64 0]), 3, 24) := by kernel_rfl
set_option maxHeartbeats 16000000 in
theorem RThen_walk (blk off n cap : Nat) (zs : List Aff) (RR : Aff) (hN : n ≤ 4611686018427387904) (h1 : 1 ≤ n) (w : World) (hbk : blk < w.heap.size) (sl : AffSl w blk off n zs) (hR : (zs.drop 1).foldl compF (zs.getD 0 sameA) = RR) :
    Calls Try.prog 57 #[.slice (some ⟨blk, off, none⟩) n cap] w fun e w' => e = .returned (.agg #[.int .i64 RR.m0, .int .i64 RR.m1, .int .i64 RR.m2, .int .i64 RR.m3, .int .i64 RR.m4, .int .i64 RR.m5, .int .i64 RR.m6, .int .i64 RR.m7, .int .i64 RR.m8, .int .i64 RR.tx, .int .i64 RR.ty, .int .i64 RR.tz]) ∧ Below w.heap.size w w' := by
  have SLH := Lib.hid sl; have HRR := Lib.hid hR
  have hlen := Lib.hid sl.len
  have hc0 : ((n : Int) == 0) = false := by simp; omega
  have in0 := Lib.hid (sl.bd 0 (by omega))
  have HX0 : Hid (Has blk off (zs.getD 0 sameA).cells w) := Lib.hid ⟨hbk, fun j v hj => by have := sl.cell 0 (by omega) j v hj; rwa [Nat.zero_mul, Nat.add_zero] at this⟩
  obtain ⟨z0, hz0⟩ : ∃ z, z = zs.getD 0 sameA := ⟨_, rfl⟩
  rw [← hz0] at in0 HX0
  rw [← hz0] at hR
  have HRR := Lib.hid hR
  clear hR sl hz0
  obtain ⟨i0, hi, hz⟩ : ∃ i, Try.prog.info? 36 = some i ∧ (i.zero = some (.agg #[.int .i64 0, .int .i64 0, .int .i64 0]) ∧ i.size = 3 ∧ i.bytes = 24) := by
    have := infoVec12
    cases e : Try.prog.info? 36 with
    | none => rw [e] at this; cases this
    | some i => rw [e] at this; simp at this; exact ⟨i, rfl, this⟩
  have HZ0 := Lib.hid hz.1; have HZ1 := Lib.hid hz.2.1; have HZ2 := Lib.hid hz.2.2; have HI := Lib.hid hi
  clear hz hi
  go_enter Try.func57, Try.ntmps57
  go_upto_region 1 with fail
  obtain ⟨W0, hW⟩ : ∃ W0, W0 = (w.alloc (.cells #[.int .i64 0, .int .i64 0, .int .i64 0, .int .i64 0, .int .i64 0, .int .i64 0, .int .i64 0, .int .i64 0, .int .i64 0, .int .i64 0, .int .i64 0, .int .i64 0] 80)) := ⟨_, rfl⟩
  have hB0 : Below w.heap.size w W0 := hW ▸ (Below.al (Below.refl _ _))
  have HR : Hid (Own w.heap.size [.int .i64 0, .int .i64 0, .int .i64 0, .int .i64 0, .int .i64 0, .int .i64 0, .int .i64 0, .int .i64 0, .int .i64 0, .int .i64 0, .int .i64 0, .int .i64 0] W0) := Lib.hid (hW ▸ (Own.newAt (by simp)))
  rw [← hW]
  clear hW
  obtain ⟨R, eR⟩ : ∃ X, X = w.heap.size := ⟨_, rfl⟩
  rw [← eR] at HR ⊢
  have Rw : w.heap.size ≤ R := by omega
  clear eR
  replace HX0 := Lib.hid (HX0.out.below hB0 HX0.out.lt)
  have oX := HX0.out
  have k0 : W0.cell? ⟨blk, off, none⟩ = some (.int .i64 z0.m0) := oX.at 0 _ rfl
  have k1 : W0.cell? ⟨blk, off + 1, none⟩ = some (.int .i64 z0.m1) := oX.at 1 _ rfl
  have k2 : W0.cell? ⟨blk, off + 2, none⟩ = some (.int .i64 z0.m2) := oX.at 2 _ rfl
  have k3 : W0.cell? ⟨blk, off + 3, none⟩ = some (.int .i64 z0.m3) := oX.at 3 _ rfl
  have k4 : W0.cell? ⟨blk, off + 4, none⟩ = some (.int .i64 z0.m4) := oX.at 4 _ rfl
  have k5 : W0.cell? ⟨blk, off + 5, none⟩ = some (.int .i64 z0.m5) := oX.at 5 _ rfl
  have k6 : W0.cell? ⟨blk, off + 6, none⟩ = some (.int .i64 z0.m6) := oX.at 6 _ rfl
  have k7 : W0.cell? ⟨blk, off + 7, none⟩ = some (.int .i64 z0.m7) := oX.at 7 _ rfl
  have k8 : W0.cell? ⟨blk, off + 8, none⟩ = some (.int .i64 z0.m8) := oX.at 8 _ rfl
  have k9 : W0.cell? ⟨blk, off + 9, none⟩ = some (.int .i64 z0.tx) := oX.at 9 _ rfl
  have k10 : W0.cell? ⟨blk, off + 10, none⟩ = some (.int .i64 z0.ty) := oX.at 10 _ rfl
  have k11 : W0.cell? ⟨blk, off + 11, none⟩ = some (.int .i64 z0.tz) := oX.at 11 _ rfl
  have Xl := oX.lt
  clear oX
  go_upto_region 4 with fail
  clear k0 k1 k2 k3 k4 k5 k6 k7 k8 k9 k10 k11 Xl HX0
  obtain ⟨W1, hW⟩ : ∃ W1, W1 = (W0.alloc (.cells #[.int .i64 z0.m0, .int .i64 z0.m1, .int .i64 z0.m2, .int .i64 z0.m3, .int .i64 z0.m4, .int .i64 z0.m5, .int .i64 z0.m6, .int .i64 z0.m7, .int .i64 z0.m8, .int .i64 z0.tx, .int .i64 z0.ty, .int .i64 z0.tz] 80)) := ⟨_, rfl⟩
  have hq : Below W0.heap.size W0 W1 := hW ▸ (Below.al (Below.refl _ _))
  have HD : Hid (Own W0.heap.size [.int .i64 z0.m0, .int .i64 z0.m1, .int .i64 z0.m2, .int .i64 z0.m3, .int .i64 z0.m4, .int .i64 z0.m5, .int .i64 z0.m6, .int .i64 z0.m7, .int .i64 z0.m8, .int .i64 z0.tx, .int .i64 z0.ty, .int .i64 z0.tz] W1) := Lib.hid (hW ▸ (Own.newAt (by simp)))
  rw [← hW]
  clear hW
  obtain ⟨D, eD⟩ : ∃ X, X = W0.heap.size := ⟨_, rfl⟩
  rw [← eD] at HD ⊢
  have Dw : W0.heap.size ≤ D := by omega
  clear eD
  have nRD : R ≠ D := by have := HR.out.lt; omega
  replace HR := Lib.hid (HR.out.later hq)
  have Dww : w.heap.size ≤ D := by have := hB0.size; omega
  have hB2 : Below w.heap.size w W1 := Below.go hB0 hq
  clear hB0 hq Dw
  have Dw := Dww
  clear Dww
  go_wp2_with (fail)
  go_loopw [4] (fun i wr => ∃ (k : Nat) (G : Aff), 1 ≤ k ∧ k ≤ n ∧ i = .int .i64 k ∧ Hid ((zs.drop k).foldl compF G = RR) ∧ Hid (inA G) ∧ Hid (Below w.heap.size w wr) ∧ Hid (Own D [.int .i64 G.m0, .int .i64 G.m1, .int .i64 G.m2, .int .i64 G.m3, .int .i64 G.m4, .int .i64 G.m5, .int .i64 G.m6, .int .i64 G.m7, .int .i64 G.m8, .int .i64 G.tx, .int .i64 G.ty, .int .i64 G.tz] wr) ∧ Hid (Own R [.int .i64 0, .int .i64 0, .int .i64 0, .int .i64 0, .int .i64 0, .int .i64 0, .int .i64 0, .int .i64 0, .int .i64 0, .int .i64 0, .int .i64 0, .int .i64 0] wr)) (fun i _ => (n - (intOf i).toNat))
  case atStart => exact ⟨1, z0, by omega, h1, rfl, HRR, in0, Lib.hid hB2, HD, HR⟩
  case round =>
    obtain ⟨k, G, hk1, hk, rfl, hs, hF, HB, HD, HR⟩ := hrel
    clear hB2
    by_cases hlt : k < n
    · have HX : Hid (Has blk (off + k * 12) (zs.getD k sameA).cells wr) := Lib.hid ⟨by have := HB.out.size; omega, fun j v hj => (HB.out.cell (p := ⟨blk, off + k * 12 + j, none⟩) hbk).trans (SLH.out.cell k hlt j v hj)⟩
      have wz := Lib.hid (SLH.out.bd k hlt)
      have st := foldA_step compF G zs k (by rw [hlen.out]; exact hlt)
      rw [hs.out] at st
      generalize zs.getD k sameA = z at *
      have nx := Lib.hid st.symm
      clear st hs
      go_wp2_with (fail)
      have ow0 : Hid (wr.ownsRow wr.heap.size 36 3 (.slice none 0 0) 0 []) := Lib.hid (World.ownsRow_nil _ _ _ _)
      have hs0 : Below wr.heap.size wr wr := Below.refl _ _
      have TU := Lib.hid (fun x y q hx hy hq w => RTurn_any z x y q wz.out hx hy hq w)
      have AP := Lib.hid (fun x y q hx hy hq w => RApply_any z x y q wz.out hx hy hq w)
      have hG := hF.out
      have hn1 : k ≤ 4611686018427387904 := by omega
      refine wp_loop_rounds 4 ?_
      rw [rounds_succ]
      go_wp2_with (fail)
      refine wp_region_fun 24 (by kernel_rfl) (by kernel_rfl) rfl (fun s b => ⟨#[.slice (some ⟨blk, off, none⟩) n cap, undef, .pointer (some ⟨R, 0, none⟩), .pointer (some ⟨D, 0, none⟩), .int .i64 k, s 5, .int .i64 0, .slice (some ⟨blk, off, none⟩) n cap, .int .i64 n, .bool false, undef, .slice (some ⟨blk, off, none⟩) n cap, .pointer (some ⟨blk, off, none⟩), (.agg #[.int .i64 z0.m0, .int .i64 z0.m1, .int .i64 z0.m2, .int .i64 z0.m3, .int .i64 z0.m4, .int .i64 z0.m5, .int .i64 z0.m6, .int .i64 z0.m7, .int .i64 z0.m8, .int .i64 z0.tx, .int .i64 z0.ty, .int .i64 z0.tz]), .int .i64 k, .slice (some ⟨blk, off, none⟩) n cap, .int .i64 n, .bool true, u18, u19, .int .i64 0, .bool true, u22, u23, s 24, s 25, s 26, s 27, s 28, s 29, s 30, s 31, s 32, s 33, s 34, s 35, s 36, s 37, s 38, s 39, s 40, s 41, s 42, s 43, s 44, s 45, s 46, u47, u48, u49, u50, u51, u52, u53, u54, u55, u56, u57, undef], []⟩) (fun d s b w => (Below wr.heap.size wr w) ∧ (d 0 = true → s 24 = (.slice none 0 0)) ∧ (d 1 = true → s 25 = .slice (some ⟨blk, off, none⟩) n cap) ∧ (d 2 = true → s 26 = .int .i64 k) ∧ (d 3 = true → s 27 = .pointer (some ⟨blk, off + k * 12, none⟩)) ∧ (d 4 = true → s 28 = (.agg #[.int .i64 z.m0, .int .i64 z.m1, .int .i64 z.m2, .int .i64 z.m3, .int .i64 z.m4, .int .i64 z.m5, .int .i64 z.m6, .int .i64 z.m7, .int .i64 z.m8, .int .i64 z.tx, .int .i64 z.ty, .int .i64 z.tz])) ∧ (d 5 = true → s 29 = .int .i64 0) ∧ (d 6 = true → s 30 = .pointer (some ⟨D, 0, none⟩)) ∧ (d 7 = true → s 31 = .pointer (some ⟨D, 0, none⟩)) ∧ (d 8 = true → s 32 = .int .i64 G.m0) ∧ (d 9 = true → s 33 = .int .i64 0) ∧ (d 10 = true → s 34 = .int .i64 3) ∧ (d 11 = true → s 35 = .pointer (some ⟨D, 0, none⟩)) ∧ (d 12 = true → s 36 = .pointer (some ⟨D, 3, none⟩)) ∧ (d 13 = true → s 37 = .int .i64 G.m3) ∧ (d 14 = true → s 38 = .int .i64 0) ∧ (d 15 = true → s 39 = .int .i64 6) ∧ (d 16 = true → s 40 = .pointer (some ⟨D, 0, none⟩)) ∧ (d 17 = true → s 41 = .pointer (some ⟨D, 6, none⟩)) ∧ (d 18 = true → s 42 = .int .i64 G.m6) ∧ (d 19 = true → s 43 = (.agg #[.int .i64 G.m0, .int .i64 G.m3, .int .i64 G.m6])) ∧ (d 20 = true → s 44 = (.agg #[.int .i64 (T0 z G.m0 G.m3 G.m6), .int .i64 (T1 z G.m0 G.m3 G.m6), .int .i64 (T2 z G.m0 G.m3 G.m6)])) ∧ (d 21 = true → s 45 = .slice (some ⟨(b 21), 0, none⟩) 1 1 ∧ wr.heap.size ≤ b 21) ∧ (d 21 = true → d 22 = false → Own (b 21) [.int .i64 (T0 z G.m0 G.m3 G.m6), .int .i64 (T1 z G.m0 G.m3 G.m6), .int .i64 (T2 z G.m0 G.m3 G.m6)] w) ∧ (d 22 = false → w.ownsRow wr.heap.size 36 3 (.slice none 0 0) 0 []) ∧ (d 22 = true → w.ownsRow wr.heap.size 36 3 (s 46) (0 + 1) ([] ++ [.int .i64 (T0 z G.m0 G.m3 G.m6), .int .i64 (T1 z G.m0 G.m3 G.m6), .int .i64 (T2 z G.m0 G.m3 G.m6)])) ∧ (d 23 = true → s 5 = s 46) ∧ (d 23 = false → s 5 = (.slice none 0 0)) ∧ (d 23 = true → d 0 = true) ∧ (d 23 = true → d 22 = true)) rfl ?h0w1 (?stw1 : StepsF _ _ _ _ 24 _ _ [0, 1, 2, 3, 4, 5, 6, 7, 8, 9, 10, 11, 12, 13, 14, 15, 16, 17, 18, 19, 20, 21, 22, 23]) ?dnw1
      case h0w1 => exact ⟨Below.drew hs0, (fun h => nomatch h), (fun h => nomatch h), (fun h => nomatch h), (fun h => nomatch h), (fun h => nomatch h), (fun h => nomatch h), (fun h => nomatch h), (fun h => nomatch h), (fun h => nomatch h), (fun h => nomatch h), (fun h => nomatch h), (fun h => nomatch h), (fun h => nomatch h), (fun h => nomatch h), (fun h => nomatch h), (fun h => nomatch h), (fun h => nomatch h), (fun h => nomatch h), (fun h => nomatch h), (fun h => nomatch h), (fun h => nomatch h), (fun h => nomatch h), (fun h => nomatch h), (fun _ => row_later ow0.out (Below.refl _ _).drew), (fun h => nomatch h), (fun h => nomatch h), (fun _ => rfl), (fun h => nomatch h), (fun h => nomatch h)⟩
      case stw1 =>
        refine StepsF.cons (o := _) rfl (ws := []) (by kernel_rfl) (by decide) (fun d s b w hF hd hw K hK => ?_) ?_
        · have hB : Below wr.heap.size wr w := (p0_ hF.out)
          have e23 : s 5 = (.slice none 0 0) := (p27_ hF.out) (by cases e : d 23 with | false => rfl | true => exact absurd ((p28_ hF.out) e) (by simp [hd]))
          dsimp only
          go_simp
          exact hK.out (ups (ups s 5 ((.slice none 0 0))) 24 ((.slice none 0 0))) b _ ⟨hB, (fun _ => rfl), (p2_ hF.out), (p3_ hF.out), (p4_ hF.out), (p5_ hF.out), (p6_ hF.out), (p7_ hF.out), (p8_ hF.out), (p9_ hF.out), (p10_ hF.out), (p11_ hF.out), (p12_ hF.out), (p13_ hF.out), (p14_ hF.out), (p15_ hF.out), (p16_ hF.out), (p17_ hF.out), (p18_ hF.out), (p19_ hF.out), (p20_ hF.out), (p21_ hF.out), (p22_ hF.out), (p23_ hF.out), (p24_ hF.out), (p25_ hF.out), (fun h => absurd ((p28_ hF.out) h) (by simp [hd])), (fun _ => rfl), (fun _ => rfl), (q29_ hF.out)⟩
        refine StepsF.cons (o := _) rfl (ws := []) (by kernel_rfl) (by decide) (fun d s b w hF hd hw K hK => ?_) ?_
        · have hB : Below wr.heap.size wr w := (p0_ hF.out)
          dsimp only
          go_simp
          exact hK.out (ups s 25 (.slice (some ⟨blk, off, none⟩) n cap)) b _ ⟨hB, (p1_ hF.out), (fun _ => rfl), (p3_ hF.out), (p4_ hF.out), (p5_ hF.out), (p6_ hF.out), (p7_ hF.out), (p8_ hF.out), (p9_ hF.out), (p10_ hF.out), (p11_ hF.out), (p12_ hF.out), (p13_ hF.out), (p14_ hF.out), (p15_ hF.out), (p16_ hF.out), (p17_ hF.out), (p18_ hF.out), (p19_ hF.out), (p20_ hF.out), (p21_ hF.out), (p22_ hF.out), (p23_ hF.out), (p24_ hF.out), (p25_ hF.out), (p26_ hF.out), (p27_ hF.out), (p28_ hF.out), (q29_ hF.out)⟩
        refine StepsF.cons (o := _) rfl (ws := []) (by kernel_rfl) (by decide) (fun d s b w hF hd hw K hK => ?_) ?_
        · have hB : Below wr.heap.size wr w := (p0_ hF.out)
          dsimp only
          go_simp
          exact hK.out (ups s 26 (.int .i64 k)) b _ ⟨hB, (p1_ hF.out), (p2_ hF.out), (fun _ => rfl), (p4_ hF.out), (p5_ hF.out), (p6_ hF.out), (p7_ hF.out), (p8_ hF.out), (p9_ hF.out), (p10_ hF.out), (p11_ hF.out), (p12_ hF.out), (p13_ hF.out), (p14_ hF.out), (p15_ hF.out), (p16_ hF.out), (p17_ hF.out), (p18_ hF.out), (p19_ hF.out), (p20_ hF.out), (p21_ hF.out), (p22_ hF.out), (p23_ hF.out), (p24_ hF.out), (p25_ hF.out), (p26_ hF.out), (p27_ hF.out), (p28_ hF.out), (q29_ hF.out)⟩
        refine StepsF.cons (o := _) rfl (ws := [1, 2]) (by kernel_rfl) (by decide) (fun d s b w hF hd hw K hK => ?_) ?_
        · have hB : Below wr.heap.size wr w := (p0_ hF.out)
          have e1 : s 25 = .slice (some ⟨blk, off, none⟩) n cap := (p2_ hF.out) (hw 1 (by decide))
          have e2 : s 26 = .int .i64 k := (p3_ hF.out) (hw 2 (by decide))
          dsimp only
          go_simp
          exact hK.out (ups (ups (ups s 25 (.slice (some ⟨blk, off, none⟩) n cap)) 26 (.int .i64 k)) 27 (.pointer (some ⟨blk, off + k * 12, none⟩))) b _ ⟨hB, (p1_ hF.out), (fun _ => rfl), (fun _ => rfl), (fun _ => rfl), (p5_ hF.out), (p6_ hF.out), (p7_ hF.out), (p8_ hF.out), (p9_ hF.out), (p10_ hF.out), (p11_ hF.out), (p12_ hF.out), (p13_ hF.out), (p14_ hF.out), (p15_ hF.out), (p16_ hF.out), (p17_ hF.out), (p18_ hF.out), (p19_ hF.out), (p20_ hF.out), (p21_ hF.out), (p22_ hF.out), (p23_ hF.out), (p24_ hF.out), (p25_ hF.out), (p26_ hF.out), (p27_ hF.out), (p28_ hF.out), (q29_ hF.out)⟩
        refine StepsF.cons (o := _) rfl (ws := [3]) (by kernel_rfl) (by decide) (fun d s b w hF hd hw K hK => ?_) ?_
        · have hB : Below wr.heap.size wr w := (p0_ hF.out)
          have e3 : s 27 = .pointer (some ⟨blk, off + k * 12, none⟩) := (p4_ hF.out) (hw 3 (by decide))
          dsimp only
          have oxd := HD.out.later hB
          have xd0 := oxd.at 0 _ rfl
          have xd1 := oxd.at 1 _ rfl
          have xd2 := oxd.at 2 _ rfl
          have xd3 := oxd.at 3 _ rfl
          have xd4 := oxd.at 4 _ rfl
          have xd5 := oxd.at 5 _ rfl
          have xd6 := oxd.at 6 _ rfl
          have xd7 := oxd.at 7 _ rfl
          have xd8 := oxd.at 8 _ rfl
          clear oxd
          have oxz := HX.out.later hB
          have xz0 := oxz.at 0 _ rfl
          have xz1 := oxz.at 1 _ rfl
          have xz2 := oxz.at 2 _ rfl
          have xz3 := oxz.at 3 _ rfl
          have xz4 := oxz.at 4 _ rfl
          have xz5 := oxz.at 5 _ rfl
          have xz6 := oxz.at 6 _ rfl
          have xz7 := oxz.at 7 _ rfl
          have xz8 := oxz.at 8 _ rfl
          have xz9 := oxz.at 9 _ rfl
          have xz10 := oxz.at 10 _ rfl
          have xz11 := oxz.at 11 _ rfl
          clear oxz
          have zx0 : w.cell? ⟨blk, off + k * 12, none⟩ = some (.int .i64 z.m0) := xz0
          clear xz0
          go_simp
          exact hK.out (ups (ups s 27 (.pointer (some ⟨blk, off + k * 12, none⟩))) 28 ((.agg #[.int .i64 z.m0, .int .i64 z.m1, .int .i64 z.m2, .int .i64 z.m3, .int .i64 z.m4, .int .i64 z.m5, .int .i64 z.m6, .int .i64 z.m7, .int .i64 z.m8, .int .i64 z.tx, .int .i64 z.ty, .int .i64 z.tz]))) b _ ⟨hB, (p1_ hF.out), (p2_ hF.out), (p3_ hF.out), (fun _ => rfl), (fun _ => rfl), (p6_ hF.out), (p7_ hF.out), (p8_ hF.out), (p9_ hF.out), (p10_ hF.out), (p11_ hF.out), (p12_ hF.out), (p13_ hF.out), (p14_ hF.out), (p15_ hF.out), (p16_ hF.out), (p17_ hF.out), (p18_ hF.out), (p19_ hF.out), (p20_ hF.out), (p21_ hF.out), (p22_ hF.out), (p23_ hF.out), (p24_ hF.out), (p25_ hF.out), (p26_ hF.out), (p27_ hF.out), (p28_ hF.out), (q29_ hF.out)⟩
        refine StepsF.cons (o := _) rfl (ws := []) (by kernel_rfl) (by decide) (fun d s b w hF hd hw K hK => ?_) ?_
        · have hB : Below wr.heap.size wr w := (p0_ hF.out)
          dsimp only
          go_simp
          exact hK.out (ups s 29 (.int .i64 0)) b _ ⟨hB, (p1_ hF.out), (p2_ hF.out), (p3_ hF.out), (p4_ hF.out), (p5_ hF.out), (fun _ => rfl), (p7_ hF.out), (p8_ hF.out), (p9_ hF.out), (p10_ hF.out), (p11_ hF.out), (p12_ hF.out), (p13_ hF.out), (p14_ hF.out), (p15_ hF.out), (p16_ hF.out), (p17_ hF.out), (p18_ hF.out), (p19_ hF.out), (p20_ hF.out), (p21_ hF.out), (p22_ hF.out), (p23_ hF.out), (p24_ hF.out), (p25_ hF.out), (p26_ hF.out), (p27_ hF.out), (p28_ hF.out), (q29_ hF.out)⟩
        refine StepsF.cons (o := _) rfl (ws := []) (by kernel_rfl) (by decide) (fun d s b w hF hd hw K hK => ?_) ?_
        · have hB : Below wr.heap.size wr w := (p0_ hF.out)
          dsimp only
          go_simp
          exact hK.out (ups s 30 (.pointer (some ⟨D, 0, none⟩))) b _ ⟨hB, (p1_ hF.out), (p2_ hF.out), (p3_ hF.out), (p4_ hF.out), (p5_ hF.out), (p6_ hF.out), (fun _ => rfl), (p8_ hF.out), (p9_ hF.out), (p10_ hF.out), (p11_ hF.out), (p12_ hF.out), (p13_ hF.out), (p14_ hF.out), (p15_ hF.out), (p16_ hF.out), (p17_ hF.out), (p18_ hF.out), (p19_ hF.out), (p20_ hF.out), (p21_ hF.out), (p22_ hF.out), (p23_ hF.out), (p24_ hF.out), (p25_ hF.out), (p26_ hF.out), (p27_ hF.out), (p28_ hF.out), (q29_ hF.out)⟩
        refine StepsF.cons (o := _) rfl (ws := [6, 5]) (by kernel_rfl) (by decide) (fun d s b w hF hd hw K hK => ?_) ?_
        · have hB : Below wr.heap.size wr w := (p0_ hF.out)
          have e5 : s 29 = .int .i64 0 := (p6_ hF.out) (hw 5 (by decide))
          have e6 : s 30 = .pointer (some ⟨D, 0, none⟩) := (p7_ hF.out) (hw 6 (by decide))
          dsimp only
          go_simp
          exact hK.out (ups (ups (ups s 29 (.int .i64 0)) 30 (.pointer (some ⟨D, 0, none⟩))) 31 (.pointer (some ⟨D, 0, none⟩))) b _ ⟨hB, (p1_ hF.out), (p2_ hF.out), (p3_ hF.out), (p4_ hF.out), (p5_ hF.out), (fun _ => rfl), (fun _ => rfl), (fun _ => rfl), (p9_ hF.out), (p10_ hF.out), (p11_ hF.out), (p12_ hF.out), (p13_ hF.out), (p14_ hF.out), (p15_ hF.out), (p16_ hF.out), (p17_ hF.out), (p18_ hF.out), (p19_ hF.out), (p20_ hF.out), (p21_ hF.out), (p22_ hF.out), (p23_ hF.out), (p24_ hF.out), (p25_ hF.out), (p26_ hF.out), (p27_ hF.out), (p28_ hF.out), (q29_ hF.out)⟩
        refine StepsF.cons (o := _) rfl (ws := [7]) (by kernel_rfl) (by decide) (fun d s b w hF hd hw K hK => ?_) ?_
        · have hB : Below wr.heap.size wr w := (p0_ hF.out)
          have e7 : s 31 = .pointer (some ⟨D, 0, none⟩) := (p8_ hF.out) (hw 7 (by decide))
          dsimp only
          have oxd := HD.out.later hB
          have xd0 := oxd.at 0 _ rfl
          have xd1 := oxd.at 1 _ rfl
          have xd2 := oxd.at 2 _ rfl
          have xd3 := oxd.at 3 _ rfl
          have xd4 := oxd.at 4 _ rfl
          have xd5 := oxd.at 5 _ rfl
          have xd6 := oxd.at 6 _ rfl
          have xd7 := oxd.at 7 _ rfl
          have xd8 := oxd.at 8 _ rfl
          clear oxd
          have oxz := HX.out.later hB
          have xz0 := oxz.at 0 _ rfl
          have xz1 := oxz.at 1 _ rfl
          have xz2 := oxz.at 2 _ rfl
          have xz3 := oxz.at 3 _ rfl
          have xz4 := oxz.at 4 _ rfl
          have xz5 := oxz.at 5 _ rfl
          have xz6 := oxz.at 6 _ rfl
          have xz7 := oxz.at 7 _ rfl
          have xz8 := oxz.at 8 _ rfl
          have xz9 := oxz.at 9 _ rfl
          have xz10 := oxz.at 10 _ rfl
          have xz11 := oxz.at 11 _ rfl
          clear oxz
          go_simp
          exact hK.out (ups (ups s 31 (.pointer (some ⟨D, 0, none⟩))) 32 (.int .i64 G.m0)) b _ ⟨hB, (p1_ hF.out), (p2_ hF.out), (p3_ hF.out), (p4_ hF.out), (p5_ hF.out), (p6_ hF.out), (p7_ hF.out), (fun _ => rfl), (fun _ => rfl), (p10_ hF.out), (p11_ hF.out), (p12_ hF.out), (p13_ hF.out), (p14_ hF.out), (p15_ hF.out), (p16_ hF.out), (p17_ hF.out), (p18_ hF.out), (p19_ hF.out), (p20_ hF.out), (p21_ hF.out), (p22_ hF.out), (p23_ hF.out), (p24_ hF.out), (p25_ hF.out), (p26_ hF.out), (p27_ hF.out), (p28_ hF.out), (q29_ hF.out)⟩
        refine StepsF.cons (o := _) rfl (ws := []) (by kernel_rfl) (by decide) (fun d s b w hF hd hw K hK => ?_) ?_
        · have hB : Below wr.heap.size wr w := (p0_ hF.out)
          dsimp only
          go_simp
          exact hK.out (ups s 33 (.int .i64 0)) b _ ⟨hB, (p1_ hF.out), (p2_ hF.out), (p3_ hF.out), (p4_ hF.out), (p5_ hF.out), (p6_ hF.out), (p7_ hF.out), (p8_ hF.out), (p9_ hF.out), (fun _ => rfl), (p11_ hF.out), (p12_ hF.out), (p13_ hF.out), (p14_ hF.out), (p15_ hF.out), (p16_ hF.out), (p17_ hF.out), (p18_ hF.out), (p19_ hF.out), (p20_ hF.out), (p21_ hF.out), (p22_ hF.out), (p23_ hF.out), (p24_ hF.out), (p25_ hF.out), (p26_ hF.out), (p27_ hF.out), (p28_ hF.out), (q29_ hF.out)⟩
        refine StepsF.cons (o := _) rfl (ws := [9]) (by kernel_rfl) (by decide) (fun d s b w hF hd hw K hK => ?_) ?_
        · have hB : Below wr.heap.size wr w := (p0_ hF.out)
          have e9 : s 33 = .int .i64 0 := (p10_ hF.out) (hw 9 (by decide))
          dsimp only
          go_simp
          exact hK.out (ups (ups s 33 (.int .i64 0)) 34 (.int .i64 3)) b _ ⟨hB, (p1_ hF.out), (p2_ hF.out), (p3_ hF.out), (p4_ hF.out), (p5_ hF.out), (p6_ hF.out), (p7_ hF.out), (p8_ hF.out), (p9_ hF.out), (fun _ => rfl), (fun _ => rfl), (p12_ hF.out), (p13_ hF.out), (p14_ hF.out), (p15_ hF.out), (p16_ hF.out), (p17_ hF.out), (p18_ hF.out), (p19_ hF.out), (p20_ hF.out), (p21_ hF.out), (p22_ hF.out), (p23_ hF.out), (p24_ hF.out), (p25_ hF.out), (p26_ hF.out), (p27_ hF.out), (p28_ hF.out), (q29_ hF.out)⟩
        refine StepsF.cons (o := _) rfl (ws := []) (by kernel_rfl) (by decide) (fun d s b w hF hd hw K hK => ?_) ?_
        · have hB : Below wr.heap.size wr w := (p0_ hF.out)
          dsimp only
          go_simp
          exact hK.out (ups s 35 (.pointer (some ⟨D, 0, none⟩))) b _ ⟨hB, (p1_ hF.out), (p2_ hF.out), (p3_ hF.out), (p4_ hF.out), (p5_ hF.out), (p6_ hF.out), (p7_ hF.out), (p8_ hF.out), (p9_ hF.out), (p10_ hF.out), (p11_ hF.out), (fun _ => rfl), (p13_ hF.out), (p14_ hF.out), (p15_ hF.out), (p16_ hF.out), (p17_ hF.out), (p18_ hF.out), (p19_ hF.out), (p20_ hF.out), (p21_ hF.out), (p22_ hF.out), (p23_ hF.out), (p24_ hF.out), (p25_ hF.out), (p26_ hF.out), (p27_ hF.out), (p28_ hF.out), (q29_ hF.out)⟩
        refine StepsF.cons (o := _) rfl (ws := [11, 10]) (by kernel_rfl) (by decide) (fun d s b w hF hd hw K hK => ?_) ?_
        · have hB : Below wr.heap.size wr w := (p0_ hF.out)
          have e10 : s 34 = .int .i64 3 := (p11_ hF.out) (hw 10 (by decide))
          have e11 : s 35 = .pointer (some ⟨D, 0, none⟩) := (p12_ hF.out) (hw 11 (by decide))
          dsimp only
          go_simp
          exact hK.out (ups (ups (ups s 34 (.int .i64 3)) 35 (.pointer (some ⟨D, 0, none⟩))) 36 (.pointer (some ⟨D, 3, none⟩))) b _ ⟨hB, (p1_ hF.out), (p2_ hF.out), (p3_ hF.out), (p4_ hF.out), (p5_ hF.out), (p6_ hF.out), (p7_ hF.out), (p8_ hF.out), (p9_ hF.out), (p10_ hF.out), (fun _ => rfl), (fun _ => rfl), (fun _ => rfl), (p14_ hF.out), (p15_ hF.out), (p16_ hF.out), (p17_ hF.out), (p18_ hF.out), (p19_ hF.out), (p20_ hF.out), (p21_ hF.out), (p22_ hF.out), (p23_ hF.out), (p24_ hF.out), (p25_ hF.out), (p26_ hF.out), (p27_ hF.out), (p28_ hF.out), (q29_ hF.out)⟩
        refine StepsF.cons (o := _) rfl (ws := [12]) (by kernel_rfl) (by decide) (fun d s b w hF hd hw K hK => ?_) ?_
        · have hB : Below wr.heap.size wr w := (p0_ hF.out)
          have e12 : s 36 = .pointer (some ⟨D, 3, none⟩) := (p13_ hF.out) (hw 12 (by decide))
          dsimp only
          have oxd := HD.out.later hB
          have xd0 := oxd.at 0 _ rfl
          have xd1 := oxd.at 1 _ rfl
          have xd2 := oxd.at 2 _ rfl
          have xd3 := oxd.at 3 _ rfl
          have xd4 := oxd.at 4 _ rfl
          have xd5 := oxd.at 5 _ rfl
          have xd6 := oxd.at 6 _ rfl
          have xd7 := oxd.at 7 _ rfl
          have xd8 := oxd.at 8 _ rfl
          clear oxd
          have oxz := HX.out.later hB
          have xz0 := oxz.at 0 _ rfl
          have xz1 := oxz.at 1 _ rfl
          have xz2 := oxz.at 2 _ rfl
          have xz3 := oxz.at 3 _ rfl
          have xz4 := oxz.at 4 _ rfl
          have xz5 := oxz.at 5 _ rfl
          have xz6 := oxz.at 6 _ rfl
          have xz7 := oxz.at 7 _ rfl
          have xz8 := oxz.at 8 _ rfl
          have xz9 := oxz.at 9 _ rfl
          have xz10 := oxz.at 10 _ rfl
          have xz11 := oxz.at 11 _ rfl
          clear oxz
          go_simp
          exact hK.out (ups (ups s 36 (.pointer (some ⟨D, 3, none⟩))) 37 (.int .i64 G.m3)) b _ ⟨hB, (p1_ hF.out), (p2_ hF.out), (p3_ hF.out), (p4_ hF.out), (p5_ hF.out), (p6_ hF.out), (p7_ hF.out), (p8_ hF.out), (p9_ hF.out), (p10_ hF.out), (p11_ hF.out), (p12_ hF.out), (fun _ => rfl), (fun _ => rfl), (p15_ hF.out), (p16_ hF.out), (p17_ hF.out), (p18_ hF.out), (p19_ hF.out), (p20_ hF.out), (p21_ hF.out), (p22_ hF.out), (p23_ hF.out), (p24_ hF.out), (p25_ hF.out), (p26_ hF.out), (p27_ hF.out), (p28_ hF.out), (q29_ hF.out)⟩
        refine StepsF.cons (o := _) rfl (ws := []) (by kernel_rfl) (by decide) (fun d s b w hF hd hw K hK => ?_) ?_
        · have hB : Below wr.heap.size wr w := (p0_ hF.out)
          dsimp only
          go_simp
          exact hK.out (ups s 38 (.int .i64 0)) b _ ⟨hB, (p1_ hF.out), (p2_ hF.out), (p3_ hF.out), (p4_ hF.out), (p5_ hF.out), (p6_ hF.out), (p7_ hF.out), (p8_ hF.out), (p9_ hF.out), (p10_ hF.out), (p11_ hF.out), (p12_ hF.out), (p13_ hF.out), (p14_ hF.out), (fun _ => rfl), (p16_ hF.out), (p17_ hF.out), (p18_ hF.out), (p19_ hF.out), (p20_ hF.out), (p21_ hF.out), (p22_ hF.out), (p23_ hF.out), (p24_ hF.out), (p25_ hF.out), (p26_ hF.out), (p27_ hF.out), (p28_ hF.out), (q29_ hF.out)⟩
        refine StepsF.cons (o := _) rfl (ws := [14]) (by kernel_rfl) (by decide) (fun d s b w hF hd hw K hK => ?_) ?_
        · have hB : Below wr.heap.size wr w := (p0_ hF.out)
          have e14 : s 38 = .int .i64 0 := (p15_ hF.out) (hw 14 (by decide))
          dsimp only
          go_simp
          exact hK.out (ups (ups s 38 (.int .i64 0)) 39 (.int .i64 6)) b _ ⟨hB, (p1_ hF.out), (p2_ hF.out), (p3_ hF.out), (p4_ hF.out), (p5_ hF.out), (p6_ hF.out), (p7_ hF.out), (p8_ hF.out), (p9_ hF.out), (p10_ hF.out), (p11_ hF.out), (p12_ hF.out), (p13_ hF.out), (p14_ hF.out), (fun _ => rfl), (fun _ => rfl), (p17_ hF.out), (p18_ hF.out), (p19_ hF.out), (p20_ hF.out), (p21_ hF.out), (p22_ hF.out), (p23_ hF.out), (p24_ hF.out), (p25_ hF.out), (p26_ hF.out), (p27_ hF.out), (p28_ hF.out), (q29_ hF.out)⟩
        refine StepsF.cons (o := _) rfl (ws := []) (by kernel_rfl) (by decide) (fun d s b w hF hd hw K hK => ?_) ?_
        · have hB : Below wr.heap.size wr w := (p0_ hF.out)
          dsimp only
          go_simp
          exact hK.out (ups s 40 (.pointer (some ⟨D, 0, none⟩))) b _ ⟨hB, (p1_ hF.out), (p2_ hF.out), (p3_ hF.out), (p4_ hF.out), (p5_ hF.out), (p6_ hF.out), (p7_ hF.out), (p8_ hF.out), (p9_ hF.out), (p10_ hF.out), (p11_ hF.out), (p12_ hF.out), (p13_ hF.out), (p14_ hF.out), (p15_ hF.out), (p16_ hF.out), (fun _ => rfl), (p18_ hF.out), (p19_ hF.out), (p20_ hF.out), (p21_ hF.out), (p22_ hF.out), (p23_ hF.out), (p24_ hF.out), (p25_ hF.out), (p26_ hF.out), (p27_ hF.out), (p28_ hF.out), (q29_ hF.out)⟩
        refine StepsF.cons (o := _) rfl (ws := [16, 15]) (by kernel_rfl) (by decide) (fun d s b w hF hd hw K hK => ?_) ?_
        · have hB : Below wr.heap.size wr w := (p0_ hF.out)
          have e15 : s 39 = .int .i64 6 := (p16_ hF.out) (hw 15 (by decide))
          have e16 : s 40 = .pointer (some ⟨D, 0, none⟩) := (p17_ hF.out) (hw 16 (by decide))
          dsimp only
          go_simp
          exact hK.out (ups (ups (ups s 39 (.int .i64 6)) 40 (.pointer (some ⟨D, 0, none⟩))) 41 (.pointer (some ⟨D, 6, none⟩))) b _ ⟨hB, (p1_ hF.out), (p2_ hF.out), (p3_ hF.out), (p4_ hF.out), (p5_ hF.out), (p6_ hF.out), (p7_ hF.out), (p8_ hF.out), (p9_ hF.out), (p10_ hF.out), (p11_ hF.out), (p12_ hF.out), (p13_ hF.out), (p14_ hF.out), (p15_ hF.out), (fun _ => rfl), (fun _ => rfl), (fun _ => rfl), (p19_ hF.out), (p20_ hF.out), (p21_ hF.out), (p22_ hF.out), (p23_ hF.out), (p24_ hF.out), (p25_ hF.out), (p26_ hF.out), (p27_ hF.out), (p28_ hF.out), (q29_ hF.out)⟩
        refine StepsF.cons (o := _) rfl (ws := [17]) (by kernel_rfl) (by decide) (fun d s b w hF hd hw K hK => ?_) ?_
        · have hB : Below wr.heap.size wr w := (p0_ hF.out)
          have e17 : s 41 = .pointer (some ⟨D, 6, none⟩) := (p18_ hF.out) (hw 17 (by decide))
          dsimp only
          have oxd := HD.out.later hB
          have xd0 := oxd.at 0 _ rfl
          have xd1 := oxd.at 1 _ rfl
          have xd2 := oxd.at 2 _ rfl
          have xd3 := oxd.at 3 _ rfl
          have xd4 := oxd.at 4 _ rfl
          have xd5 := oxd.at 5 _ rfl
          have xd6 := oxd.at 6 _ rfl
          have xd7 := oxd.at 7 _ rfl
          have xd8 := oxd.at 8 _ rfl
          clear oxd
          have oxz := HX.out.later hB
          have xz0 := oxz.at 0 _ rfl
          have xz1 := oxz.at 1 _ rfl
          have xz2 := oxz.at 2 _ rfl
          have xz3 := oxz.at 3 _ rfl
          have xz4 := oxz.at 4 _ rfl
          have xz5 := oxz.at 5 _ rfl
          have xz6 := oxz.at 6 _ rfl
          have xz7 := oxz.at 7 _ rfl
          have xz8 := oxz.at 8 _ rfl
          have xz9 := oxz.at 9 _ rfl
          have xz10 := oxz.at 10 _ rfl
          have xz11 := oxz.at 11 _ rfl
          clear oxz
          go_simp
          exact hK.out (ups (ups s 41 (.pointer (some ⟨D, 6, none⟩))) 42 (.int .i64 G.m6)) b _ ⟨hB, (p1_ hF.out), (p2_ hF.out), (p3_ hF.out), (p4_ hF.out), (p5_ hF.out), (p6_ hF.out), (p7_ hF.out), (p8_ hF.out), (p9_ hF.out), (p10_ hF.out), (p11_ hF.out), (p12_ hF.out), (p13_ hF.out), (p14_ hF.out), (p15_ hF.out), (p16_ hF.out), (p17_ hF.out), (fun _ => rfl), (fun _ => rfl), (p20_ hF.out), (p21_ hF.out), (p22_ hF.out), (p23_ hF.out), (p24_ hF.out), (p25_ hF.out), (p26_ hF.out), (p27_ hF.out), (p28_ hF.out), (q29_ hF.out)⟩
        refine StepsF.cons (o := _) rfl (ws := [8, 13, 18]) (by kernel_rfl) (by decide) (fun d s b w hF hd hw K hK => ?_) ?_
        · have hB : Below wr.heap.size wr w := (p0_ hF.out)
          have e8 : s 32 = .int .i64 G.m0 := (p9_ hF.out) (hw 8 (by decide))
          have e13 : s 37 = .int .i64 G.m3 := (p14_ hF.out) (hw 13 (by decide))
          have e18 : s 42 = .int .i64 G.m6 := (p19_ hF.out) (hw 18 (by decide))
          dsimp only
          go_simp
          exact hK.out (ups (ups (ups (ups s 32 (.int .i64 G.m0)) 37 (.int .i64 G.m3)) 42 (.int .i64 G.m6)) 43 ((.agg #[.int .i64 G.m0, .int .i64 G.m3, .int .i64 G.m6]))) b _ ⟨hB, (p1_ hF.out), (p2_ hF.out), (p3_ hF.out), (p4_ hF.out), (p5_ hF.out), (p6_ hF.out), (p7_ hF.out), (p8_ hF.out), (fun _ => rfl), (p10_ hF.out), (p11_ hF.out), (p12_ hF.out), (p13_ hF.out), (fun _ => rfl), (p15_ hF.out), (p16_ hF.out), (p17_ hF.out), (p18_ hF.out), (fun _ => rfl), (fun _ => rfl), (p21_ hF.out), (p22_ hF.out), (p23_ hF.out), (p24_ hF.out), (p25_ hF.out), (p26_ hF.out), (p27_ hF.out), (p28_ hF.out), (q29_ hF.out)⟩
        refine StepsF.cons (o := _) rfl (ws := [4, 19]) (by kernel_rfl) (by decide) (fun d s b w hF hd hw K hK => ?_) ?_
        · have hB : Below wr.heap.size wr w := (p0_ hF.out)
          have e4 : s 28 = (.agg #[.int .i64 z.m0, .int .i64 z.m1, .int .i64 z.m2, .int .i64 z.m3, .int .i64 z.m4, .int .i64 z.m5, .int .i64 z.m6, .int .i64 z.m7, .int .i64 z.m8, .int .i64 z.tx, .int .i64 z.ty, .int .i64 z.tz]) := (p5_ hF.out) (hw 4 (by decide))
          have e19 : s 43 = (.agg #[.int .i64 G.m0, .int .i64 G.m3, .int .i64 G.m6]) := (p20_ hF.out) (hw 19 (by decide))
          dsimp only
          go_simp
          go_at_call 91
          refine (TU.out _ _ _ hG.1 hG.2.2.2.1 hG.2.2.2.2.2.2.1 _).mono ?_
          rintro e w1 ⟨rfl, hb⟩
          exact hK.out (ups (ups (ups s 28 ((.agg #[.int .i64 z.m0, .int .i64 z.m1, .int .i64 z.m2, .int .i64 z.m3, .int .i64 z.m4, .int .i64 z.m5, .int .i64 z.m6, .int .i64 z.m7, .int .i64 z.m8, .int .i64 z.tx, .int .i64 z.ty, .int .i64 z.tz]))) 43 ((.agg #[.int .i64 G.m0, .int .i64 G.m3, .int .i64 G.m6]))) 44 ((.agg #[.int .i64 (T0 z G.m0 G.m3 G.m6), .int .i64 (T1 z G.m0 G.m3 G.m6), .int .i64 (T2 z G.m0 G.m3 G.m6)]))) b _ ⟨(Below.go hB hb), (p1_ hF.out), (p2_ hF.out), (p3_ hF.out), (p4_ hF.out), (fun _ => rfl), (p6_ hF.out), (p7_ hF.out), (p8_ hF.out), (p9_ hF.out), (p10_ hF.out), (p11_ hF.out), (p12_ hF.out), (p13_ hF.out), (p14_ hF.out), (p15_ hF.out), (p16_ hF.out), (p17_ hF.out), (p18_ hF.out), (p19_ hF.out), (fun _ => rfl), (fun _ => rfl), (p22_ hF.out), (fun h0 h1 => ((p23_ hF.out) h0 h1).later hb), (fun h0 => row_later ((p24_ hF.out) h0) hb), (fun h0 => row_later ((p25_ hF.out) h0) hb), (p26_ hF.out), (p27_ hF.out), (p28_ hF.out), (q29_ hF.out)⟩
        refine StepsF.cons (o := _) rfl (ws := [20]) (by kernel_rfl) (by decide) (fun d s b w hF hd hw K hK => ?_) ?_
        · have hB : Below wr.heap.size wr w := (p0_ hF.out)
          have e20 : s 44 = (.agg #[.int .i64 (T0 z G.m0 G.m3 G.m6), .int .i64 (T1 z G.m0 G.m3 G.m6), .int .i64 (T2 z G.m0 G.m3 G.m6)]) := (p21_ hF.out) (hw 20 (by decide))
          dsimp only
          go_simp
          exact hK.out (ups (ups s 44 ((.agg #[.int .i64 (T0 z G.m0 G.m3 G.m6), .int .i64 (T1 z G.m0 G.m3 G.m6), .int .i64 (T2 z G.m0 G.m3 G.m6)]))) 45 (.slice (some ⟨w.heap.size, 0, none⟩) 1 1)) (ups b 21 w.heap.size) _ ⟨(hB.alloc hB.size _), (p1_ hF.out), (p2_ hF.out), (p3_ hF.out), (p4_ hF.out), (p5_ hF.out), (p6_ hF.out), (p7_ hF.out), (p8_ hF.out), (p9_ hF.out), (p10_ hF.out), (p11_ hF.out), (p12_ hF.out), (p13_ hF.out), (p14_ hF.out), (p15_ hF.out), (p16_ hF.out), (p17_ hF.out), (p18_ hF.out), (p19_ hF.out), (p20_ hF.out), (fun _ => rfl), (fun _ => ⟨rfl, hB.size⟩), (fun _ _ => Own.newAt rfl), (fun h0 => row_later ((p24_ hF.out) h0) (Below.al (Below.refl _ _))), (fun h0 => row_later ((p25_ hF.out) h0) (Below.al (Below.refl _ _))), (p26_ hF.out), (p27_ hF.out), (p28_ hF.out), (q29_ hF.out)⟩
        refine StepsF.cons (o := _) rfl (ws := [0, 21, 20]) (by kernel_rfl) (by decide) (fun d s b w hF hd hw K hK => ?_) ?_
        · have hB : Below wr.heap.size wr w := (p0_ hF.out)
          have e23 : s 5 = (.slice none 0 0) := (p27_ hF.out) (by cases e : d 23 with | false => rfl | true => exact absurd ((q29_ hF.out) e) (by simp [hd]))
          have e0 : s 24 = (.slice none 0 0) := (p1_ hF.out) (hw 0 (by decide))
          have e20 : s 44 = (.agg #[.int .i64 (T0 z G.m0 G.m3 G.m6), .int .i64 (T1 z G.m0 G.m3 G.m6), .int .i64 (T2 z G.m0 G.m3 G.m6)]) := (p21_ hF.out) (hw 20 (by decide))
          have e21 : s 45 = .slice (some ⟨(b 21), 0, none⟩) 1 1 := ((p22_ hF.out) (hw 21 (by decide))).1
          have le21 : wr.heap.size ≤ b 21 := ((p22_ hF.out) (hw 21 (by decide))).2
          have hi := HI.out
          have hz0 := HZ0.out
          have hz1 := HZ1.out
          have hz2 := HZ2.out
          have go := (p24_ hF.out) hd; have nb := (p23_ hF.out) (hw 21 (by decide)) hd
          refine step_append_to rfl (.tmp 24) (.tmp 45) 77 rfl 36 i0 (.agg #[.int .i64 0, .int .i64 0, .int .i64 0]) 3 24 Try.underlying77 hi hz0 hz1 hz2 rfl (by decide) wr.heap.size (.slice none 0 0) 0 [] ?a1 go ⟨b 21, 0, none⟩ 1 1 [.int .i64 (T0 z G.m0 G.m3 G.m6), .int .i64 (T1 z G.m0 G.m3 G.m6), .int .i64 (T2 z G.m0 G.m3 G.m6)] ?a2 rfl nb.news ?c2 ?c3 ?c4 hB.size ?_
          case a1 => exact e0
          case a2 => exact e21
          case c2 => simp [Value.oneCell']
          case c3 => unfold maxLen; omega
          case c4 => omega
          intro v' w' hown hg
          exact hK.out (ups s 46 (v')) b _ ⟨(Below.gro hB hg go (Nat.le_refl _)), (p1_ hF.out), (p2_ hF.out), (p3_ hF.out), (p4_ hF.out), (p5_ hF.out), (p6_ hF.out), (p7_ hF.out), (p8_ hF.out), (p9_ hF.out), (p10_ hF.out), (p11_ hF.out), (p12_ hF.out), (p13_ hF.out), (p14_ hF.out), (p15_ hF.out), (p16_ hF.out), (p17_ hF.out), (p18_ hF.out), (p19_ hF.out), (p20_ hF.out), (p21_ hF.out), (p22_ hF.out), (fun _ h => nomatch h), (fun h => nomatch h), (fun _ => hown), (fun h => absurd ((q29_ hF.out) h) (by simp [hd])), (p27_ hF.out), (p28_ hF.out), (fun _ => rfl)⟩
        refine StepsF.cons (o := _) rfl (ws := [22, 22, 0, 1, 2, 3, 4, 5, 6, 7, 8, 9, 10, 11, 12, 13, 14, 15, 16, 17, 18, 19, 20, 21, 22]) (by kernel_rfl) (by decide) (fun d s b w hF hd hw K hK => ?_) ?_
        · have hB : Below wr.heap.size wr w := (p0_ hF.out)
          have e0 : s 24 = (.slice none 0 0) := (p1_ hF.out) (hw 0 (by decide))
          have e1 : s 25 = .slice (some ⟨blk, off, none⟩) n cap := (p2_ hF.out) (hw 1 (by decide))
          have e2 : s 26 = .int .i64 k := (p3_ hF.out) (hw 2 (by decide))
          have e3 : s 27 = .pointer (some ⟨blk, off + k * 12, none⟩) := (p4_ hF.out) (hw 3 (by decide))
          have e4 : s 28 = (.agg #[.int .i64 z.m0, .int .i64 z.m1, .int .i64 z.m2, .int .i64 z.m3, .int .i64 z.m4, .int .i64 z.m5, .int .i64 z.m6, .int .i64 z.m7, .int .i64 z.m8, .int .i64 z.tx, .int .i64 z.ty, .int .i64 z.tz]) := (p5_ hF.out) (hw 4 (by decide))
          have e5 : s 29 = .int .i64 0 := (p6_ hF.out) (hw 5 (by decide))
          have e6 : s 30 = .pointer (some ⟨D, 0, none⟩) := (p7_ hF.out) (hw 6 (by decide))
          have e7 : s 31 = .pointer (some ⟨D, 0, none⟩) := (p8_ hF.out) (hw 7 (by decide))
          have e8 : s 32 = .int .i64 G.m0 := (p9_ hF.out) (hw 8 (by decide))
          have e9 : s 33 = .int .i64 0 := (p10_ hF.out) (hw 9 (by decide))
          have e10 : s 34 = .int .i64 3 := (p11_ hF.out) (hw 10 (by decide))
          have e11 : s 35 = .pointer (some ⟨D, 0, none⟩) := (p12_ hF.out) (hw 11 (by decide))
          have e12 : s 36 = .pointer (some ⟨D, 3, none⟩) := (p13_ hF.out) (hw 12 (by decide))
          have e13 : s 37 = .int .i64 G.m3 := (p14_ hF.out) (hw 13 (by decide))
          have e14 : s 38 = .int .i64 0 := (p15_ hF.out) (hw 14 (by decide))
          have e15 : s 39 = .int .i64 6 := (p16_ hF.out) (hw 15 (by decide))
          have e16 : s 40 = .pointer (some ⟨D, 0, none⟩) := (p17_ hF.out) (hw 16 (by decide))
          have e17 : s 41 = .pointer (some ⟨D, 6, none⟩) := (p18_ hF.out) (hw 17 (by decide))
          have e18 : s 42 = .int .i64 G.m6 := (p19_ hF.out) (hw 18 (by decide))
          have e19 : s 43 = (.agg #[.int .i64 G.m0, .int .i64 G.m3, .int .i64 G.m6]) := (p20_ hF.out) (hw 19 (by decide))
          have e20 : s 44 = (.agg #[.int .i64 (T0 z G.m0 G.m3 G.m6), .int .i64 (T1 z G.m0 G.m3 G.m6), .int .i64 (T2 z G.m0 G.m3 G.m6)]) := (p21_ hF.out) (hw 20 (by decide))
          have e21 : s 45 = .slice (some ⟨(b 21), 0, none⟩) 1 1 := ((p22_ hF.out) (hw 21 (by decide))).1
          have le21 : wr.heap.size ≤ b 21 := ((p22_ hF.out) (hw 21 (by decide))).2
          dsimp only
          go_simp
          exact hK.out (ups (ups (ups (ups (ups (ups (ups (ups (ups (ups (ups (ups (ups (ups (ups (ups (ups (ups (ups (ups (ups (ups (ups s 24 ((.slice none 0 0))) 25 (.slice (some ⟨blk, off, none⟩) n cap)) 26 (.int .i64 k)) 27 (.pointer (some ⟨blk, off + k * 12, none⟩))) 28 ((.agg #[.int .i64 z.m0, .int .i64 z.m1, .int .i64 z.m2, .int .i64 z.m3, .int .i64 z.m4, .int .i64 z.m5, .int .i64 z.m6, .int .i64 z.m7, .int .i64 z.m8, .int .i64 z.tx, .int .i64 z.ty, .int .i64 z.tz]))) 29 (.int .i64 0)) 30 (.pointer (some ⟨D, 0, none⟩))) 31 (.pointer (some ⟨D, 0, none⟩))) 32 (.int .i64 G.m0)) 33 (.int .i64 0)) 34 (.int .i64 3)) 35 (.pointer (some ⟨D, 0, none⟩))) 36 (.pointer (some ⟨D, 3, none⟩))) 37 (.int .i64 G.m3)) 38 (.int .i64 0)) 39 (.int .i64 6)) 40 (.pointer (some ⟨D, 0, none⟩))) 41 (.pointer (some ⟨D, 6, none⟩))) 42 (.int .i64 G.m6)) 43 ((.agg #[.int .i64 G.m0, .int .i64 G.m3, .int .i64 G.m6]))) 44 ((.agg #[.int .i64 (T0 z G.m0 G.m3 G.m6), .int .i64 (T1 z G.m0 G.m3 G.m6), .int .i64 (T2 z G.m0 G.m3 G.m6)]))) 45 (.slice (some ⟨(b 21), 0, none⟩) 1 1)) 5 (s 46)) b _ ⟨hB, (fun _ => rfl), (fun _ => rfl), (fun _ => rfl), (fun _ => rfl), (fun _ => rfl), (fun _ => rfl), (fun _ => rfl), (fun _ => rfl), (fun _ => rfl), (fun _ => rfl), (fun _ => rfl), (fun _ => rfl), (fun _ => rfl), (fun _ => rfl), (fun _ => rfl), (fun _ => rfl), (fun _ => rfl), (fun _ => rfl), (fun _ => rfl), (fun _ => rfl), (fun _ => rfl), (fun _ => ⟨rfl, le21⟩), (p23_ hF.out), (p24_ hF.out), (p25_ hF.out), (fun _ => rfl), (fun h => nomatch h), (fun _ => hw 0 (by decide)), (fun _ => hw 22 (by decide))⟩
        exact StepsF.nil
      intro d s b w1 hF hall
      replace hF := Lib.hid hF
      have hB : Below wr.heap.size wr w1 := (p0_ hF.out)
      try dsimp only
      have e0 : s 24 = (.slice none 0 0) := (p1_ hF.out) (hall 0 (by decide))
      have e1 : s 25 = .slice (some ⟨blk, off, none⟩) n cap := (p2_ hF.out) (hall 1 (by decide))
      have e2 : s 26 = .int .i64 k := (p3_ hF.out) (hall 2 (by decide))
      have e3 : s 27 = .pointer (some ⟨blk, off + k * 12, none⟩) := (p4_ hF.out) (hall 3 (by decide))
      have e4 : s 28 = (.agg #[.int .i64 z.m0, .int .i64 z.m1, .int .i64 z.m2, .int .i64 z.m3, .int .i64 z.m4, .int .i64 z.m5, .int .i64 z.m6, .int .i64 z.m7, .int .i64 z.m8, .int .i64 z.tx, .int .i64 z.ty, .int .i64 z.tz]) := (p5_ hF.out) (hall 4 (by decide))
      have e5 : s 29 = .int .i64 0 := (p6_ hF.out) (hall 5 (by decide))
      have e6 : s 30 = .pointer (some ⟨D, 0, none⟩) := (p7_ hF.out) (hall 6 (by decide))
      have e7 : s 31 = .pointer (some ⟨D, 0, none⟩) := (p8_ hF.out) (hall 7 (by decide))
      have e8 : s 32 = .int .i64 G.m0 := (p9_ hF.out) (hall 8 (by decide))
      have e9 : s 33 = .int .i64 0 := (p10_ hF.out) (hall 9 (by decide))
      have e10 : s 34 = .int .i64 3 := (p11_ hF.out) (hall 10 (by decide))
      have e11 : s 35 = .pointer (some ⟨D, 0, none⟩) := (p12_ hF.out) (hall 11 (by decide))
      have e12 : s 36 = .pointer (some ⟨D, 3, none⟩) := (p13_ hF.out) (hall 12 (by decide))
      have e13 : s 37 = .int .i64 G.m3 := (p14_ hF.out) (hall 13 (by decide))
      have e14 : s 38 = .int .i64 0 := (p15_ hF.out) (hall 14 (by decide))
      have e15 : s 39 = .int .i64 6 := (p16_ hF.out) (hall 15 (by decide))
      have e16 : s 40 = .pointer (some ⟨D, 0, none⟩) := (p17_ hF.out) (hall 16 (by decide))
      have e17 : s 41 = .pointer (some ⟨D, 6, none⟩) := (p18_ hF.out) (hall 17 (by decide))
      have e18 : s 42 = .int .i64 G.m6 := (p19_ hF.out) (hall 18 (by decide))
      have e19 : s 43 = (.agg #[.int .i64 G.m0, .int .i64 G.m3, .int .i64 G.m6]) := (p20_ hF.out) (hall 19 (by decide))
      have e20 : s 44 = (.agg #[.int .i64 (T0 z G.m0 G.m3 G.m6), .int .i64 (T1 z G.m0 G.m3 G.m6), .int .i64 (T2 z G.m0 G.m3 G.m6)]) := (p21_ hF.out) (hall 20 (by decide))
      have e21 : s 45 = .slice (some ⟨(b 21), 0, none⟩) 1 1 := ((p22_ hF.out) (hall 21 (by decide))).1
      have le21 : wr.heap.size ≤ b 21 := ((p22_ hF.out) (hall 21 (by decide))).2
      have f22 := (p25_ hF.out) (hall 22 (by decide))
      have e23 : s 5 = s 46 := (p26_ hF.out) (hall 23 (by decide))
      rw [e0, e1, e2, e3, e4, e5, e6, e7, e8, e9, e10, e11, e12, e13, e14, e15, e16, e17, e18, e19, e20, e21, e23]
      clear hall hF e0 e1 e2 e3 e4 e5 e6 e7 e8 e9 e10 e11 e12 e13 e14 e15 e16 e17 e18 e19 e20 e21 e23
      obtain ⟨nw, hz⟩ : ∃ x, x = b 21 := ⟨_, rfl⟩
      rw [← hz] at le21 ⊢
      clear hz
      obtain ⟨u1_, hz⟩ : ∃ x, x = s 46 := ⟨_, rfl⟩
      rw [← hz] at f22 ⊢
      clear hz
      clear d s b
      have hs1 := hB; clear hB
      have ow1 := Lib.hid f22
      clear f22 ow0 hs0
      go_wp2_with (fail)
      rw [rounds_succ]
      go_wp2_with (fail)
      refine wp_region_fun 24 (by kernel_rfl) (by kernel_rfl) rfl (fun s b => ⟨#[.slice (some ⟨blk, off, none⟩) n cap, undef, .pointer (some ⟨R, 0, none⟩), .pointer (some ⟨D, 0, none⟩), .int .i64 k, s 5, .int .i64 1, .slice (some ⟨blk, off, none⟩) n cap, .int .i64 n, .bool false, undef, .slice (some ⟨blk, off, none⟩) n cap, .pointer (some ⟨blk, off, none⟩), (.agg #[.int .i64 z0.m0, .int .i64 z0.m1, .int .i64 z0.m2, .int .i64 z0.m3, .int .i64 z0.m4, .int .i64 z0.m5, .int .i64 z0.m6, .int .i64 z0.m7, .int .i64 z0.m8, .int .i64 z0.tx, .int .i64 z0.ty, .int .i64 z0.tz]), .int .i64 k, .slice (some ⟨blk, off, none⟩) n cap, .int .i64 n, .bool true, u18, u19, .int .i64 1, .bool true, .int .i64 0, .int .i64 1, s 24, s 25, s 26, s 27, s 28, s 29, s 30, s 31, s 32, s 33, s 34, s 35, s 36, s 37, s 38, s 39, s 40, s 41, s 42, s 43, s 44, s 45, s 46, u47, u48, u49, u50, u51, u52, u53, u54, u55, u56, u57, undef], []⟩) (fun d s b w => (Below wr.heap.size wr w) ∧ (d 0 = true → s 24 = u1_) ∧ (d 1 = true → s 25 = .slice (some ⟨blk, off, none⟩) n cap) ∧ (d 2 = true → s 26 = .int .i64 k) ∧ (d 3 = true → s 27 = .pointer (some ⟨blk, off + k * 12, none⟩)) ∧ (d 4 = true → s 28 = (.agg #[.int .i64 z.m0, .int .i64 z.m1, .int .i64 z.m2, .int .i64 z.m3, .int .i64 z.m4, .int .i64 z.m5, .int .i64 z.m6, .int .i64 z.m7, .int .i64 z.m8, .int .i64 z.tx, .int .i64 z.ty, .int .i64 z.tz])) ∧ (d 5 = true → s 29 = .int .i64 1) ∧ (d 6 = true → s 30 = .pointer (some ⟨D, 0, none⟩)) ∧ (d 7 = true → s 31 = .pointer (some ⟨D, 1, none⟩)) ∧ (d 8 = true → s 32 = .int .i64 G.m1) ∧ (d 9 = true → s 33 = .int .i64 1) ∧ (d 10 = true → s 34 = .int .i64 4) ∧ (d 11 = true → s 35 = .pointer (some ⟨D, 0, none⟩)) ∧ (d 12 = true → s 36 = .pointer (some ⟨D, 4, none⟩)) ∧ (d 13 = true → s 37 = .int .i64 G.m4) ∧ (d 14 = true → s 38 = .int .i64 1) ∧ (d 15 = true → s 39 = .int .i64 7) ∧ (d 16 = true → s 40 = .pointer (some ⟨D, 0, none⟩)) ∧ (d 17 = true → s 41 = .pointer (some ⟨D, 7, none⟩)) ∧ (d 18 = true → s 42 = .int .i64 G.m7) ∧ (d 19 = true → s 43 = (.agg #[.int .i64 G.m1, .int .i64 G.m4, .int .i64 G.m7])) ∧ (d 20 = true → s 44 = (.agg #[.int .i64 (T0 z G.m1 G.m4 G.m7), .int .i64 (T1 z G.m1 G.m4 G.m7), .int .i64 (T2 z G.m1 G.m4 G.m7)])) ∧ (d 21 = true → s 45 = .slice (some ⟨(b 21), 0, none⟩) 1 1 ∧ wr.heap.size ≤ b 21) ∧ (d 21 = true → d 22 = false → Own (b 21) [.int .i64 (T0 z G.m1 G.m4 G.m7), .int .i64 (T1 z G.m1 G.m4 G.m7), .int .i64 (T2 z G.m1 G.m4 G.m7)] w) ∧ (d 22 = false → w.ownsRow wr.heap.size 36 3 u1_ 1 [.int .i64 (T0 z G.m0 G.m3 G.m6), .int .i64 (T1 z G.m0 G.m3 G.m6), .int .i64 (T2 z G.m0 G.m3 G.m6)]) ∧ (d 22 = true → w.ownsRow wr.heap.size 36 3 (s 46) (1 + 1) ([.int .i64 (T0 z G.m0 G.m3 G.m6), .int .i64 (T1 z G.m0 G.m3 G.m6), .int .i64 (T2 z G.m0 G.m3 G.m6)] ++ [.int .i64 (T0 z G.m1 G.m4 G.m7), .int .i64 (T1 z G.m1 G.m4 G.m7), .int .i64 (T2 z G.m1 G.m4 G.m7)])) ∧ (d 23 = true → s 5 = s 46) ∧ (d 23 = false → s 5 = u1_) ∧ (d 23 = true → d 0 = true) ∧ (d 23 = true → d 22 = true)) rfl ?h0w2 (?stw2 : StepsF _ _ _ _ 24 _ _ [0, 1, 2, 3, 4, 5, 6, 7, 8, 9, 10, 11, 12, 13, 14, 15, 16, 17, 18, 19, 20, 21, 22, 23]) ?dnw2
      case h0w2 => exact ⟨Below.drew hs1, (fun h => nomatch h), (fun h => nomatch h), (fun h => nomatch h), (fun h => nomatch h), (fun h => nomatch h), (fun h => nomatch h), (fun h => nomatch h), (fun h => nomatch h), (fun h => nomatch h), (fun h => nomatch h), (fun h => nomatch h), (fun h => nomatch h), (fun h => nomatch h), (fun h => nomatch h), (fun h => nomatch h), (fun h => nomatch h), (fun h => nomatch h), (fun h => nomatch h), (fun h => nomatch h), (fun h => nomatch h), (fun h => nomatch h), (fun h => nomatch h), (fun h => nomatch h), (fun _ => row_later ow1.out (Below.refl _ _).drew), (fun h => nomatch h), (fun h => nomatch h), (fun _ => rfl), (fun h => nomatch h), (fun h => nomatch h)⟩
      case stw2 =>
        refine StepsF.cons (o := _) rfl (ws := []) (by kernel_rfl) (by decide) (fun d s b w hF hd hw K hK => ?_) ?_
        · have hB : Below wr.heap.size wr w := (p0_ hF.out)
          have e23 : s 5 = u1_ := (p27_ hF.out) (by cases e : d 23 with | false => rfl | true => exact absurd ((p28_ hF.out) e) (by simp [hd]))
          dsimp only
          go_simp
          exact hK.out (ups (ups s 5 (u1_)) 24 (u1_)) b _ ⟨hB, (fun _ => rfl), (p2_ hF.out), (p3_ hF.out), (p4_ hF.out), (p5_ hF.out), (p6_ hF.out), (p7_ hF.out), (p8_ hF.out), (p9_ hF.out), (p10_ hF.out), (p11_ hF.out), (p12_ hF.out), (p13_ hF.out), (p14_ hF.out), (p15_ hF.out), (p16_ hF.out), (p17_ hF.out), (p18_ hF.out), (p19_ hF.out), (p20_ hF.out), (p21_ hF.out), (p22_ hF.out), (p23_ hF.out), (p24_ hF.out), (p25_ hF.out), (fun h => absurd ((p28_ hF.out) h) (by simp [hd])), (fun _ => rfl), (fun _ => rfl), (q29_ hF.out)⟩
        refine StepsF.cons (o := _) rfl (ws := []) (by kernel_rfl) (by decide) (fun d s b w hF hd hw K hK => ?_) ?_
        · have hB : Below wr.heap.size wr w := (p0_ hF.out)
          dsimp only
          go_simp
          exact hK.out (ups s 25 (.slice (some ⟨blk, off, none⟩) n cap)) b _ ⟨hB, (p1_ hF.out), (fun _ => rfl), (p3_ hF.out), (p4_ hF.out), (p5_ hF.out), (p6_ hF.out), (p7_ hF.out), (p8_ hF.out), (p9_ hF.out), (p10_ hF.out), (p11_ hF.out), (p12_ hF.out), (p13_ hF.out), (p14_ hF.out), (p15_ hF.out), (p16_ hF.out), (p17_ hF.out), (p18_ hF.out), (p19_ hF.out), (p20_ hF.out), (p21_ hF.out), (p22_ hF.out), (p23_ hF.out), (p24_ hF.out), (p25_ hF.out), (p26_ hF.out), (p27_ hF.out), (p28_ hF.out), (q29_ hF.out)⟩
        refine StepsF.cons (o := _) rfl (ws := []) (by kernel_rfl) (by decide) (fun d s b w hF hd hw K hK => ?_) ?_
        · have hB : Below wr.heap.size wr w := (p0_ hF.out)
          dsimp only
          go_simp
          exact hK.out (ups s 26 (.int .i64 k)) b _ ⟨hB, (p1_ hF.out), (p2_ hF.out), (fun _ => rfl), (p4_ hF.out), (p5_ hF.out), (p6_ hF.out), (p7_ hF.out), (p8_ hF.out), (p9_ hF.out), (p10_ hF.out), (p11_ hF.out), (p12_ hF.out), (p13_ hF.out), (p14_ hF.out), (p15_ hF.out), (p16_ hF.out), (p17_ hF.out), (p18_ hF.out), (p19_ hF.out), (p20_ hF.out), (p21_ hF.out), (p22_ hF.out), (p23_ hF.out), (p24_ hF.out), (p25_ hF.out), (p26_ hF.out), (p27_ hF.out), (p28_ hF.out), (q29_ hF.out)⟩
        refine StepsF.cons (o := _) rfl (ws := [1, 2]) (by kernel_rfl) (by decide) (fun d s b w hF hd hw K hK => ?_) ?_
        · have hB : Below wr.heap.size wr w := (p0_ hF.out)
          have e1 : s 25 = .slice (some ⟨blk, off, none⟩) n cap := (p2_ hF.out) (hw 1 (by decide))
          have e2 : s 26 = .int .i64 k := (p3_ hF.out) (hw 2 (by decide))
          dsimp only
          go_simp
          exact hK.out (ups (ups (ups s 25 (.slice (some ⟨blk, off, none⟩) n cap)) 26 (.int .i64 k)) 27 (.pointer (some ⟨blk, off + k * 12, none⟩))) b _ ⟨hB, (p1_ hF.out), (fun _ => rfl), (fun _ => rfl), (fun _ => rfl), (p5_ hF.out), (p6_ hF.out), (p7_ hF.out), (p8_ hF.out), (p9_ hF.out), (p10_ hF.out), (p11_ hF.out), (p12_ hF.out), (p13_ hF.out), (p14_ hF.out), (p15_ hF.out), (p16_ hF.out), (p17_ hF.out), (p18_ hF.out), (p19_ hF.out), (p20_ hF.out), (p21_ hF.out), (p22_ hF.out), (p23_ hF.out), (p24_ hF.out), (p25_ hF.out), (p26_ hF.out), (p27_ hF.out), (p28_ hF.out), (q29_ hF.out)⟩
        refine StepsF.cons (o := _) rfl (ws := [3]) (by kernel_rfl) (by decide) (fun d s b w hF hd hw K hK => ?_) ?_
        · have hB : Below wr.heap.size wr w := (p0_ hF.out)
          have e3 : s 27 = .pointer (some ⟨blk, off + k * 12, none⟩) := (p4_ hF.out) (hw 3 (by decide))
          dsimp only
          have oxd := HD.out.later hB
          have xd0 := oxd.at 0 _ rfl
          have xd1 := oxd.at 1 _ rfl
          have xd2 := oxd.at 2 _ rfl
          have xd3 := oxd.at 3 _ rfl
          have xd4 := oxd.at 4 _ rfl
          have xd5 := oxd.at 5 _ rfl
          have xd6 := oxd.at 6 _ rfl
          have xd7 := oxd.at 7 _ rfl
          have xd8 := oxd.at 8 _ rfl
          clear oxd
          have oxz := HX.out.later hB
          have xz0 := oxz.at 0 _ rfl
          have xz1 := oxz.at 1 _ rfl
          have xz2 := oxz.at 2 _ rfl
          have xz3 := oxz.at 3 _ rfl
          have xz4 := oxz.at 4 _ rfl
          have xz5 := oxz.at 5 _ rfl
          have xz6 := oxz.at 6 _ rfl
          have xz7 := oxz.at 7 _ rfl
          have xz8 := oxz.at 8 _ rfl
          have xz9 := oxz.at 9 _ rfl
          have xz10 := oxz.at 10 _ rfl
          have xz11 := oxz.at 11 _ rfl
          clear oxz
          have zx0 : w.cell? ⟨blk, off + k * 12, none⟩ = some (.int .i64 z.m0) := xz0
          clear xz0
          go_simp
          exact hK.out (ups (ups s 27 (.pointer (some ⟨blk, off + k * 12, none⟩))) 28 ((.agg #[.int .i64 z.m0, .int .i64 z.m1, .int .i64 z.m2, .int .i64 z.m3, .int .i64 z.m4, .int .i64 z.m5, .int .i64 z.m6, .int .i64 z.m7, .int .i64 z.m8, .int .i64 z.tx, .int .i64 z.ty, .int .i64 z.tz]))) b _ ⟨hB, (p1_ hF.out), (p2_ hF.out), (p3_ hF.out), (fun _ => rfl), (fun _ => rfl), (p6_ hF.out), (p7_ hF.out), (p8_ hF.out), (p9_ hF.out), (p10_ hF.out), (p11_ hF.out), (p12_ hF.out), (p13_ hF.out), (p14_ hF.out), (p15_ hF.out), (p16_ hF.out), (p17_ hF.out), (p18_ hF.out), (p19_ hF.out), (p20_ hF.out), (p21_ hF.out), (p22_ hF.out), (p23_ hF.out), (p24_ hF.out), (p25_ hF.out), (p26_ hF.out), (p27_ hF.out), (p28_ hF.out), (q29_ hF.out)⟩
        refine StepsF.cons (o := _) rfl (ws := []) (by kernel_rfl) (by decide) (fun d s b w hF hd hw K hK => ?_) ?_
        · have hB : Below wr.heap.size wr w := (p0_ hF.out)
          dsimp only
          go_simp
          exact hK.out (ups s 29 (.int .i64 1)) b _ ⟨hB, (p1_ hF.out), (p2_ hF.out), (p3_ hF.out), (p4_ hF.out), (p5_ hF.out), (fun _ => rfl), (p7_ hF.out), (p8_ hF.out), (p9_ hF.out), (p10_ hF.out), (p11_ hF.out), (p12_ hF.out), (p13_ hF.out), (p14_ hF.out), (p15_ hF.out), (p16_ hF.out), (p17_ hF.out), (p18_ hF.out), (p19_ hF.out), (p20_ hF.out), (p21_ hF.out), (p22_ hF.out), (p23_ hF.out), (p24_ hF.out), (p25_ hF.out), (p26_ hF.out), (p27_ hF.out), (p28_ hF.out), (q29_ hF.out)⟩
        refine StepsF.cons (o := _) rfl (ws := []) (by kernel_rfl) (by decide) (fun d s b w hF hd hw K hK => ?_) ?_
        · have hB : Below wr.heap.size wr w := (p0_ hF.out)
          dsimp only
          go_simp
          exact hK.out (ups s 30 (.pointer (some ⟨D, 0, none⟩))) b _ ⟨hB, (p1_ hF.out), (p2_ hF.out), (p3_ hF.out), (p4_ hF.out), (p5_ hF.out), (p6_ hF.out), (fun _ => rfl), (p8_ hF.out), (p9_ hF.out), (p10_ hF.out), (p11_ hF.out), (p12_ hF.out), (p13_ hF.out), (p14_ hF.out), (p15_ hF.out), (p16_ hF.out), (p17_ hF.out), (p18_ hF.out), (p19_ hF.out), (p20_ hF.out), (p21_ hF.out), (p22_ hF.out), (p23_ hF.out), (p24_ hF.out), (p25_ hF.out), (p26_ hF.out), (p27_ hF.out), (p28_ hF.out), (q29_ hF.out)⟩
        refine StepsF.cons (o := _) rfl (ws := [6, 5]) (by kernel_rfl) (by decide) (fun d s b w hF hd hw K hK => ?_) ?_
        · have hB : Below wr.heap.size wr w := (p0_ hF.out)
          have e5 : s 29 = .int .i64 1 := (p6_ hF.out) (hw 5 (by decide))
          have e6 : s 30 = .pointer (some ⟨D, 0, none⟩) := (p7_ hF.out) (hw 6 (by decide))
          dsimp only
          go_simp
          exact hK.out (ups (ups (ups s 29 (.int .i64 1)) 30 (.pointer (some ⟨D, 0, none⟩))) 31 (.pointer (some ⟨D, 1, none⟩))) b _ ⟨hB, (p1_ hF.out), (p2_ hF.out), (p3_ hF.out), (p4_ hF.out), (p5_ hF.out), (fun _ => rfl), (fun _ => rfl), (fun _ => rfl), (p9_ hF.out), (p10_ hF.out), (p11_ hF.out), (p12_ hF.out), (p13_ hF.out), (p14_ hF.out), (p15_ hF.out), (p16_ hF.out), (p17_ hF.out), (p18_ hF.out), (p19_ hF.out), (p20_ hF.out), (p21_ hF.out), (p22_ hF.out), (p23_ hF.out), (p24_ hF.out), (p25_ hF.out), (p26_ hF.out), (p27_ hF.out), (p28_ hF.out), (q29_ hF.out)⟩
        refine StepsF.cons (o := _) rfl (ws := [7]) (by kernel_rfl) (by decide) (fun d s b w hF hd hw K hK => ?_) ?_
        · have hB : Below wr.heap.size wr w := (p0_ hF.out)
          have e7 : s 31 = .pointer (some ⟨D, 1, none⟩) := (p8_ hF.out) (hw 7 (by decide))
          dsimp only
          have oxd := HD.out.later hB
          have xd0 := oxd.at 0 _ rfl
          have xd1 := oxd.at 1 _ rfl
          have xd2 := oxd.at 2 _ rfl
          have xd3 := oxd.at 3 _ rfl
          have xd4 := oxd.at 4 _ rfl
          have xd5 := oxd.at 5 _ rfl
          have xd6 := oxd.at 6 _ rfl
          have xd7 := oxd.at 7 _ rfl
          have xd8 := oxd.at 8 _ rfl
          clear oxd
          have oxz := HX.out.later hB
          have xz0 := oxz.at 0 _ rfl
          have xz1 := oxz.at 1 _ rfl
          have xz2 := oxz.at 2 _ rfl
          have xz3 := oxz.at 3 _ rfl
          have xz4 := oxz.at 4 _ rfl
          have xz5 := oxz.at 5 _ rfl
          have xz6 := oxz.at 6 _ rfl
          have xz7 := oxz.at 7 _ rfl
          have xz8 := oxz.at 8 _ rfl
          have xz9 := oxz.at 9 _ rfl
          have xz10 := oxz.at 10 _ rfl
          have xz11 := oxz.at 11 _ rfl
          clear oxz
          go_simp
          exact hK.out (ups (ups s 31 (.pointer (some ⟨D, 1, none⟩))) 32 (.int .i64 G.m1)) b _ ⟨hB, (p1_ hF.out), (p2_ hF.out), (p3_ hF.out), (p4_ hF.out), (p5_ hF.out), (p6_ hF.out), (p7_ hF.out), (fun _ => rfl), (fun _ => rfl), (p10_ hF.out), (p11_ hF.out), (p12_ hF.out), (p13_ hF.out), (p14_ hF.out), (p15_ hF.out), (p16_ hF.out), (p17_ hF.out), (p18_ hF.out), (p19_ hF.out), (p20_ hF.out), (p21_ hF.out), (p22_ hF.out), (p23_ hF.out), (p24_ hF.out), (p25_ hF.out), (p26_ hF.out), (p27_ hF.out), (p28_ hF.out), (q29_ hF.out)⟩
        refine StepsF.cons (o := _) rfl (ws := []) (by kernel_rfl) (by decide) (fun d s b w hF hd hw K hK => ?_) ?_
        · have hB : Below wr.heap.size wr w := (p0_ hF.out)
          dsimp only
          go_simp
          exact hK.out (ups s 33 (.int .i64 1)) b _ ⟨hB, (p1_ hF.out), (p2_ hF.out), (p3_ hF.out), (p4_ hF.out), (p5_ hF.out), (p6_ hF.out), (p7_ hF.out), (p8_ hF.out), (p9_ hF.out), (fun _ => rfl), (p11_ hF.out), (p12_ hF.out), (p13_ hF.out), (p14_ hF.out), (p15_ hF.out), (p16_ hF.out), (p17_ hF.out), (p18_ hF.out), (p19_ hF.out), (p20_ hF.out), (p21_ hF.out), (p22_ hF.out), (p23_ hF.out), (p24_ hF.out), (p25_ hF.out), (p26_ hF.out), (p27_ hF.out), (p28_ hF.out), (q29_ hF.out)⟩
        refine StepsF.cons (o := _) rfl (ws := [9]) (by kernel_rfl) (by decide) (fun d s b w hF hd hw K hK => ?_) ?_
        · have hB : Below wr.heap.size wr w := (p0_ hF.out)
          have e9 : s 33 = .int .i64 1 := (p10_ hF.out) (hw 9 (by decide))
          dsimp only
          go_simp
          exact hK.out (ups (ups s 33 (.int .i64 1)) 34 (.int .i64 4)) b _ ⟨hB, (p1_ hF.out), (p2_ hF.out), (p3_ hF.out), (p4_ hF.out), (p5_ hF.out), (p6_ hF.out), (p7_ hF.out), (p8_ hF.out), (p9_ hF.out), (fun _ => rfl), (fun _ => rfl), (p12_ hF.out), (p13_ hF.out), (p14_ hF.out), (p15_ hF.out), (p16_ hF.out), (p17_ hF.out), (p18_ hF.out), (p19_ hF.out), (p20_ hF.out), (p21_ hF.out), (p22_ hF.out), (p23_ hF.out), (p24_ hF.out), (p25_ hF.out), (p26_ hF.out), (p27_ hF.out), (p28_ hF.out), (q29_ hF.out)⟩
        refine StepsF.cons (o := _) rfl (ws := []) (by kernel_rfl) (by decide) (fun d s b w hF hd hw K hK => ?_) ?_
        · have hB : Below wr.heap.size wr w := (p0_ hF.out)
          dsimp only
          go_simp
          exact hK.out (ups s 35 (.pointer (some ⟨D, 0, none⟩))) b _ ⟨hB, (p1_ hF.out), (p2_ hF.out), (p3_ hF.out), (p4_ hF.out), (p5_ hF.out), (p6_ hF.out), (p7_ hF.out), (p8_ hF.out), (p9_ hF.out), (p10_ hF.out), (p11_ hF.out), (fun _ => rfl), (p13_ hF.out), (p14_ hF.out), (p15_ hF.out), (p16_ hF.out), (p17_ hF.out), (p18_ hF.out), (p19_ hF.out), (p20_ hF.out), (p21_ hF.out), (p22_ hF.out), (p23_ hF.out), (p24_ hF.out), (p25_ hF.out), (p26_ hF.out), (p27_ hF.out), (p28_ hF.out), (q29_ hF.out)⟩
        refine StepsF.cons (o := _) rfl (ws := [11, 10]) (by kernel_rfl) (by decide) (fun d s b w hF hd hw K hK => ?_) ?_
        · have hB : Below wr.heap.size wr w := (p0_ hF.out)
          have e10 : s 34 = .int .i64 4 := (p11_ hF.out) (hw 10 (by decide))
          have e11 : s 35 = .pointer (some ⟨D, 0, none⟩) := (p12_ hF.out) (hw 11 (by decide))
          dsimp only
          go_simp
          exact hK.out (ups (ups (ups s 34 (.int .i64 4)) 35 (.pointer (some ⟨D, 0, none⟩))) 36 (.pointer (some ⟨D, 4, none⟩))) b _ ⟨hB, (p1_ hF.out), (p2_ hF.out), (p3_ hF.out), (p4_ hF.out), (p5_ hF.out), (p6_ hF.out), (p7_ hF.out), (p8_ hF.out), (p9_ hF.out), (p10_ hF.out), (fun _ => rfl), (fun _ => rfl), (fun _ => rfl), (p14_ hF.out), (p15_ hF.out), (p16_ hF.out), (p17_ hF.out), (p18_ hF.out), (p19_ hF.out), (p20_ hF.out), (p21_ hF.out), (p22_ hF.out), (p23_ hF.out), (p24_ hF.out), (p25_ hF.out), (p26_ hF.out), (p27_ hF.out), (p28_ hF.out), (q29_ hF.out)⟩
        refine StepsF.cons (o := _) rfl (ws := [12]) (by kernel_rfl) (by decide) (fun d s b w hF hd hw K hK => ?_) ?_
        · have hB : Below wr.heap.size wr w := (p0_ hF.out)
          have e12 : s 36 = .pointer (some ⟨D, 4, none⟩) := (p13_ hF.out) (hw 12 (by decide))
          dsimp only
          have oxd := HD.out.later hB
          have xd0 := oxd.at 0 _ rfl
          have xd1 := oxd.at 1 _ rfl
          have xd2 := oxd.at 2 _ rfl
          have xd3 := oxd.at 3 _ rfl
          have xd4 := oxd.at 4 _ rfl
          have xd5 := oxd.at 5 _ rfl
          have xd6 := oxd.at 6 _ rfl
          have xd7 := oxd.at 7 _ rfl
          have xd8 := oxd.at 8 _ rfl
          clear oxd
          have oxz := HX.out.later hB
          have xz0 := oxz.at 0 _ rfl
          have xz1 := oxz.at 1 _ rfl
          have xz2 := oxz.at 2 _ rfl
          have xz3 := oxz.at 3 _ rfl
          have xz4 := oxz.at 4 _ rfl
          have xz5 := oxz.at 5 _ rfl
          have xz6 := oxz.at 6 _ rfl
          have xz7 := oxz.at 7 _ rfl
          have xz8 := oxz.at 8 _ rfl
          have xz9 := oxz.at 9 _ rfl
          have xz10 := oxz.at 10 _ rfl
          have xz11 := oxz.at 11 _ rfl
          clear oxz
          go_simp
          exact hK.out (ups (ups s 36 (.pointer (some ⟨D, 4, none⟩))) 37 (.int .i64 G.m4)) b _ ⟨hB, (p1_ hF.out), (p2_ hF.out), (p3_ hF.out), (p4_ hF.out), (p5_ hF.out), (p6_ hF.out), (p7_ hF.out), (p8_ hF.out), (p9_ hF.out), (p10_ hF.out), (p11_ hF.out), (p12_ hF.out), (fun _ => rfl), (fun _ => rfl), (p15_ hF.out), (p16_ hF.out), (p17_ hF.out), (p18_ hF.out), (p19_ hF.out), (p20_ hF.out), (p21_ hF.out), (p22_ hF.out), (p23_ hF.out), (p24_ hF.out), (p25_ hF.out), (p26_ hF.out), (p27_ hF.out), (p28_ hF.out), (q29_ hF.out)⟩
        refine StepsF.cons (o := _) rfl (ws := []) (by kernel_rfl) (by decide) (fun d s b w hF hd hw K hK => ?_) ?_
        · have hB : Below wr.heap.size wr w := (p0_ hF.out)
          dsimp only
          go_simp
          exact hK.out (ups s 38 (.int .i64 1)) b _ ⟨hB, (p1_ hF.out), (p2_ hF.out), (p3_ hF.out), (p4_ hF.out), (p5_ hF.out), (p6_ hF.out), (p7_ hF.out), (p8_ hF.out), (p9_ hF.out), (p10_ hF.out), (p11_ hF.out), (p12_ hF.out), (p13_ hF.out), (p14_ hF.out), (fun _ => rfl), (p16_ hF.out), (p17_ hF.out), (p18_ hF.out), (p19_ hF.out), (p20_ hF.out), (p21_ hF.out), (p22_ hF.out), (p23_ hF.out), (p24_ hF.out), (p25_ hF.out), (p26_ hF.out), (p27_ hF.out), (p28_ hF.out), (q29_ hF.out)⟩
        refine StepsF.cons (o := _) rfl (ws := [14]) (by kernel_rfl) (by decide) (fun d s b w hF hd hw K hK => ?_) ?_
        · have hB : Below wr.heap.size wr w := (p0_ hF.out)
          have e14 : s 38 = .int .i64 1 := (p15_ hF.out) (hw 14 (by decide))
          dsimp only
          go_simp
          exact hK.out (ups (ups s 38 (.int .i64 1)) 39 (.int .i64 7)) b _ ⟨hB, (p1_ hF.out), (p2_ hF.out), (p3_ hF.out), (p4_ hF.out), (p5_ hF.out), (p6_ hF.out), (p7_ hF.out), (p8_ hF.out), (p9_ hF.out), (p10_ hF.out), (p11_ hF.out), (p12_ hF.out), (p13_ hF.out), (p14_ hF.out), (fun _ => rfl), (fun _ => rfl), (p17_ hF.out), (p18_ hF.out), (p19_ hF.out), (p20_ hF.out), (p21_ hF.out), (p22_ hF.out), (p23_ hF.out), (p24_ hF.out), (p25_ hF.out), (p26_ hF.out), (p27_ hF.out), (p28_ hF.out), (q29_ hF.out)⟩
        refine StepsF.cons (o := _) rfl (ws := []) (by kernel_rfl) (by decide) (fun d s b w hF hd hw K hK => ?_) ?_
        · have hB : Below wr.heap.size wr w := (p0_ hF.out)
          dsimp only
          go_simp
          exact hK.out (ups s 40 (.pointer (some ⟨D, 0, none⟩))) b _ ⟨hB, (p1_ hF.out), (p2_ hF.out), (p3_ hF.out), (p4_ hF.out), (p5_ hF.out), (p6_ hF.out), (p7_ hF.out), (p8_ hF.out), (p9_ hF.out), (p10_ hF.out), (p11_ hF.out), (p12_ hF.out), (p13_ hF.out), (p14_ hF.out), (p15_ hF.out), (p16_ hF.out), (fun _ => rfl), (p18_ hF.out), (p19_ hF.out), (p20_ hF.out), (p21_ hF.out), (p22_ hF.out), (p23_ hF.out), (p24_ hF.out), (p25_ hF.out), (p26_ hF.out), (p27_ hF.out), (p28_ hF.out), (q29_ hF.out)⟩
        refine StepsF.cons (o := _) rfl (ws := [16, 15]) (by kernel_rfl) (by decide) (fun d s b w hF hd hw K hK => ?_) ?_
        · have hB : Below wr.heap.size wr w := (p0_ hF.out)
          have e15 : s 39 = .int .i64 7 := (p16_ hF.out) (hw 15 (by decide))
          have e16 : s 40 = .pointer (some ⟨D, 0, none⟩) := (p17_ hF.out) (hw 16 (by decide))
          dsimp only
          go_simp
          exact hK.out (ups (ups (ups s 39 (.int .i64 7)) 40 (.pointer (some ⟨D, 0, none⟩))) 41 (.pointer (some ⟨D, 7, none⟩))) b _ ⟨hB, (p1_ hF.out), (p2_ hF.out), (p3_ hF.out), (p4_ hF.out), (p5_ hF.out), (p6_ hF.out), (p7_ hF.out), (p8_ hF.out), (p9_ hF.out), (p10_ hF.out), (p11_ hF.out), (p12_ hF.out), (p13_ hF.out), (p14_ hF.out), (p15_ hF.out), (fun _ => rfl), (fun _ => rfl), (fun _ => rfl), (p19_ hF.out), (p20_ hF.out), (p21_ hF.out), (p22_ hF.out), (p23_ hF.out), (p24_ hF.out), (p25_ hF.out), (p26_ hF.out), (p27_ hF.out), (p28_ hF.out), (q29_ hF.out)⟩
        refine StepsF.cons (o := _) rfl (ws := [17]) (by kernel_rfl) (by decide) (fun d s b w hF hd hw K hK => ?_) ?_
        · have hB : Below wr.heap.size wr w := (p0_ hF.out)
          have e17 : s 41 = .pointer (some ⟨D, 7, none⟩) := (p18_ hF.out) (hw 17 (by decide))
          dsimp only
          have oxd := HD.out.later hB
          have xd0 := oxd.at 0 _ rfl
          have xd1 := oxd.at 1 _ rfl
          have xd2 := oxd.at 2 _ rfl
          have xd3 := oxd.at 3 _ rfl
          have xd4 := oxd.at 4 _ rfl
          have xd5 := oxd.at 5 _ rfl
          have xd6 := oxd.at 6 _ rfl
          have xd7 := oxd.at 7 _ rfl
          have xd8 := oxd.at 8 _ rfl
          clear oxd
          have oxz := HX.out.later hB
          have xz0 := oxz.at 0 _ rfl
          have xz1 := oxz.at 1 _ rfl
          have xz2 := oxz.at 2 _ rfl
          have xz3 := oxz.at 3 _ rfl
          have xz4 := oxz.at 4 _ rfl
          have xz5 := oxz.at 5 _ rfl
          have xz6 := oxz.at 6 _ rfl
          have xz7 := oxz.at 7 _ rfl
          have xz8 := oxz.at 8 _ rfl
          have xz9 := oxz.at 9 _ rfl
          have xz10 := oxz.at 10 _ rfl
          have xz11 := oxz.at 11 _ rfl
          clear oxz
          go_simp
          exact hK.out (ups (ups s 41 (.pointer (some ⟨D, 7, none⟩))) 42 (.int .i64 G.m7)) b _ ⟨hB, (p1_ hF.out), (p2_ hF.out), (p3_ hF.out), (p4_ hF.out), (p5_ hF.out), (p6_ hF.out), (p7_ hF.out), (p8_ hF.out), (p9_ hF.out), (p10_ hF.out), (p11_ hF.out), (p12_ hF.out), (p13_ hF.out), (p14_ hF.out), (p15_ hF.out), (p16_ hF.out), (p17_ hF.out), (fun _ => rfl), (fun _ => rfl), (p20_ hF.out), (p21_ hF.out), (p22_ hF.out), (p23_ hF.out), (p24_ hF.out), (p25_ hF.out), (p26_ hF.out), (p27_ hF.out), (p28_ hF.out), (q29_ hF.out)⟩
        refine StepsF.cons (o := _) rfl (ws := [8, 13, 18]) (by kernel_rfl) (by decide) (fun d s b w hF hd hw K hK => ?_) ?_
        · have hB : Below wr.heap.size wr w := (p0_ hF.out)
          have e8 : s 32 = .int .i64 G.m1 := (p9_ hF.out) (hw 8 (by decide))
          have e13 : s 37 = .int .i64 G.m4 := (p14_ hF.out) (hw 13 (by decide))
          have e18 : s 42 = .int .i64 G.m7 := (p19_ hF.out) (hw 18 (by decide))
          dsimp only
          go_simp
          exact hK.out (ups (ups (ups (ups s 32 (.int .i64 G.m1)) 37 (.int .i64 G.m4)) 42 (.int .i64 G.m7)) 43 ((.agg #[.int .i64 G.m1, .int .i64 G.m4, .int .i64 G.m7]))) b _ ⟨hB, (p1_ hF.out), (p2_ hF.out), (p3_ hF.out), (p4_ hF.out), (p5_ hF.out), (p6_ hF.out), (p7_ hF.out), (p8_ hF.out), (fun _ => rfl), (p10_ hF.out), (p11_ hF.out), (p12_ hF.out), (p13_ hF.out), (fun _ => rfl), (p15_ hF.out), (p16_ hF.out), (p17_ hF.out), (p18_ hF.out), (fun _ => rfl), (fun _ => rfl), (p21_ hF.out), (p22_ hF.out), (p23_ hF.out), (p24_ hF.out), (p25_ hF.out), (p26_ hF.out), (p27_ hF.out), (p28_ hF.out), (q29_ hF.out)⟩
        refine StepsF.cons (o := _) rfl (ws := [4, 19]) (by kernel_rfl) (by decide) (fun d s b w hF hd hw K hK => ?_) ?_
        · have hB : Below wr.heap.size wr w := (p0_ hF.out)
          have e4 : s 28 = (.agg #[.int .i64 z.m0, .int .i64 z.m1, .int .i64 z.m2, .int .i64 z.m3, .int .i64 z.m4, .int .i64 z.m5, .int .i64 z.m6, .int .i64 z.m7, .int .i64 z.m8, .int .i64 z.tx, .int .i64 z.ty, .int .i64 z.tz]) := (p5_ hF.out) (hw 4 (by decide))
          have e19 : s 43 = (.agg #[.int .i64 G.m1, .int .i64 G.m4, .int .i64 G.m7]) := (p20_ hF.out) (hw 19 (by decide))
          dsimp only
          go_simp
          go_at_call 91
          refine (TU.out _ _ _ hG.2.1 hG.2.2.2.2.1 hG.2.2.2.2.2.2.2.1 _).mono ?_
          rintro e w1 ⟨rfl, hb⟩
          exact hK.out (ups (ups (ups s 28 ((.agg #[.int .i64 z.m0, .int .i64 z.m1, .int .i64 z.m2, .int .i64 z.m3, .int .i64 z.m4, .int .i64 z.m5, .int .i64 z.m6, .int .i64 z.m7, .int .i64 z.m8, .int .i64 z.tx, .int .i64 z.ty, .int .i64 z.tz]))) 43 ((.agg #[.int .i64 G.m1, .int .i64 G.m4, .int .i64 G.m7]))) 44 ((.agg #[.int .i64 (T0 z G.m1 G.m4 G.m7), .int .i64 (T1 z G.m1 G.m4 G.m7), .int .i64 (T2 z G.m1 G.m4 G.m7)]))) b _ ⟨(Below.go hB hb), (p1_ hF.out), (p2_ hF.out), (p3_ hF.out), (p4_ hF.out), (fun _ => rfl), (p6_ hF.out), (p7_ hF.out), (p8_ hF.out), (p9_ hF.out), (p10_ hF.out), (p11_ hF.out), (p12_ hF.out), (p13_ hF.out), (p14_ hF.out), (p15_ hF.out), (p16_ hF.out), (p17_ hF.out), (p18_ hF.out), (p19_ hF.out), (fun _ => rfl), (fun _ => rfl), (p22_ hF.out), (fun h0 h1 => ((p23_ hF.out) h0 h1).later hb), (fun h0 => row_later ((p24_ hF.out) h0) hb), (fun h0 => row_later ((p25_ hF.out) h0) hb), (p26_ hF.out), (p27_ hF.out), (p28_ hF.out), (q29_ hF.out)⟩
        refine StepsF.cons (o := _) rfl (ws := [20]) (by kernel_rfl) (by decide) (fun d s b w hF hd hw K hK => ?_) ?_
        · have hB : Below wr.heap.size wr w := (p0_ hF.out)
          have e20 : s 44 = (.agg #[.int .i64 (T0 z G.m1 G.m4 G.m7), .int .i64 (T1 z G.m1 G.m4 G.m7), .int .i64 (T2 z G.m1 G.m4 G.m7)]) := (p21_ hF.out) (hw 20 (by decide))
          dsimp only
          go_simp
          exact hK.out (ups (ups s 44 ((.agg #[.int .i64 (T0 z G.m1 G.m4 G.m7), .int .i64 (T1 z G.m1 G.m4 G.m7), .int .i64 (T2 z G.m1 G.m4 G.m7)]))) 45 (.slice (some ⟨w.heap.size, 0, none⟩) 1 1)) (ups b 21 w.heap.size) _ ⟨(hB.alloc hB.size _), (p1_ hF.out), (p2_ hF.out), (p3_ hF.out), (p4_ hF.out), (p5_ hF.out), (p6_ hF.out), (p7_ hF.out), (p8_ hF.out), (p9_ hF.out), (p10_ hF.out), (p11_ hF.out), (p12_ hF.out), (p13_ hF.out), (p14_ hF.out), (p15_ hF.out), (p16_ hF.out), (p17_ hF.out), (p18_ hF.out), (p19_ hF.out), (p20_ hF.out), (fun _ => rfl), (fun _ => ⟨rfl, hB.size⟩), (fun _ _ => Own.newAt rfl), (fun h0 => row_later ((p24_ hF.out) h0) (Below.al (Below.refl _ _))), (fun h0 => row_later ((p25_ hF.out) h0) (Below.al (Below.refl _ _))), (p26_ hF.out), (p27_ hF.out), (p28_ hF.out), (q29_ hF.out)⟩
        refine StepsF.cons (o := _) rfl (ws := [0, 21, 20]) (by kernel_rfl) (by decide) (fun d s b w hF hd hw K hK => ?_) ?_
        · have hB : Below wr.heap.size wr w := (p0_ hF.out)
          have e23 : s 5 = u1_ := (p27_ hF.out) (by cases e : d 23 with | false => rfl | true => exact absurd ((q29_ hF.out) e) (by simp [hd]))
          have e0 : s 24 = u1_ := (p1_ hF.out) (hw 0 (by decide))
          have e20 : s 44 = (.agg #[.int .i64 (T0 z G.m1 G.m4 G.m7), .int .i64 (T1 z G.m1 G.m4 G.m7), .int .i64 (T2 z G.m1 G.m4 G.m7)]) := (p21_ hF.out) (hw 20 (by decide))
          have e21 : s 45 = .slice (some ⟨(b 21), 0, none⟩) 1 1 := ((p22_ hF.out) (hw 21 (by decide))).1
          have le21 : wr.heap.size ≤ b 21 := ((p22_ hF.out) (hw 21 (by decide))).2
          have hi := HI.out
          have hz0 := HZ0.out
          have hz1 := HZ1.out
          have hz2 := HZ2.out
          have go := (p24_ hF.out) hd; have nb := (p23_ hF.out) (hw 21 (by decide)) hd
          refine step_append_to rfl (.tmp 24) (.tmp 45) 77 rfl 36 i0 (.agg #[.int .i64 0, .int .i64 0, .int .i64 0]) 3 24 Try.underlying77 hi hz0 hz1 hz2 rfl (by decide) wr.heap.size u1_ 1 [.int .i64 (T0 z G.m0 G.m3 G.m6), .int .i64 (T1 z G.m0 G.m3 G.m6), .int .i64 (T2 z G.m0 G.m3 G.m6)] ?a1 go ⟨b 21, 0, none⟩ 1 1 [.int .i64 (T0 z G.m1 G.m4 G.m7), .int .i64 (T1 z G.m1 G.m4 G.m7), .int .i64 (T2 z G.m1 G.m4 G.m7)] ?a2 rfl nb.news ?c2 ?c3 ?c4 hB.size ?_
          case a1 => exact e0
          case a2 => exact e21
          case c2 => simp [Value.oneCell']
          case c3 => unfold maxLen; omega
          case c4 => omega
          intro v' w' hown hg
          exact hK.out (ups s 46 (v')) b _ ⟨(Below.gro hB hg go (Nat.le_refl _)), (p1_ hF.out), (p2_ hF.out), (p3_ hF.out), (p4_ hF.out), (p5_ hF.out), (p6_ hF.out), (p7_ hF.out), (p8_ hF.out), (p9_ hF.out), (p10_ hF.out), (p11_ hF.out), (p12_ hF.out), (p13_ hF.out), (p14_ hF.out), (p15_ hF.out), (p16_ hF.out), (p17_ hF.out), (p18_ hF.out), (p19_ hF.out), (p20_ hF.out), (p21_ hF.out), (p22_ hF.out), (fun _ h => nomatch h), (fun h => nomatch h), (fun _ => hown), (fun h => absurd ((q29_ hF.out) h) (by simp [hd])), (p27_ hF.out), (p28_ hF.out), (fun _ => rfl)⟩
        refine StepsF.cons (o := _) rfl (ws := [22, 22, 0, 1, 2, 3, 4, 5, 6, 7, 8, 9, 10, 11, 12, 13, 14, 15, 16, 17, 18, 19, 20, 21, 22]) (by kernel_rfl) (by decide) (fun d s b w hF hd hw K hK => ?_) ?_
        · have hB : Below wr.heap.size wr w := (p0_ hF.out)
          have e0 : s 24 = u1_ := (p1_ hF.out) (hw 0 (by decide))
          have e1 : s 25 = .slice (some ⟨blk, off, none⟩) n cap := (p2_ hF.out) (hw 1 (by decide))
          have e2 : s 26 = .int .i64 k := (p3_ hF.out) (hw 2 (by decide))
          have e3 : s 27 = .pointer (some ⟨blk, off + k * 12, none⟩) := (p4_ hF.out) (hw 3 (by decide))
          have e4 : s 28 = (.agg #[.int .i64 z.m0, .int .i64 z.m1, .int .i64 z.m2, .int .i64 z.m3, .int .i64 z.m4, .int .i64 z.m5, .int .i64 z.m6, .int .i64 z.m7, .int .i64 z.m8, .int .i64 z.tx, .int .i64 z.ty, .int .i64 z.tz]) := (p5_ hF.out) (hw 4 (by decide))
          have e5 : s 29 = .int .i64 1 := (p6_ hF.out) (hw 5 (by decide))
          have e6 : s 30 = .pointer (some ⟨D, 0, none⟩) := (p7_ hF.out) (hw 6 (by decide))
          have e7 : s 31 = .pointer (some ⟨D, 1, none⟩) := (p8_ hF.out) (hw 7 (by decide))
          have e8 : s 32 = .int .i64 G.m1 := (p9_ hF.out) (hw 8 (by decide))
          have e9 : s 33 = .int .i64 1 := (p10_ hF.out) (hw 9 (by decide))
          have e10 : s 34 = .int .i64 4 := (p11_ hF.out) (hw 10 (by decide))
          have e11 : s 35 = .pointer (some ⟨D, 0, none⟩) := (p12_ hF.out) (hw 11 (by decide))
          have e12 : s 36 = .pointer (some ⟨D, 4, none⟩) := (p13_ hF.out) (hw 12 (by decide))
          have e13 : s 37 = .int .i64 G.m4 := (p14_ hF.out) (hw 13 (by decide))
          have e14 : s 38 = .int .i64 1 := (p15_ hF.out) (hw 14 (by decide))
          have e15 : s 39 = .int .i64 7 := (p16_ hF.out) (hw 15 (by decide))
          have e16 : s 40 = .pointer (some ⟨D, 0, none⟩) := (p17_ hF.out) (hw 16 (by decide))
          have e17 : s 41 = .pointer (some ⟨D, 7, none⟩) := (p18_ hF.out) (hw 17 (by decide))
          have e18 : s 42 = .int .i64 G.m7 := (p19_ hF.out) (hw 18 (by decide))
          have e19 : s 43 = (.agg #[.int .i64 G.m1, .int .i64 G.m4, .int .i64 G.m7]) := (p20_ hF.out) (hw 19 (by decide))
          have e20 : s 44 = (.agg #[.int .i64 (T0 z G.m1 G.m4 G.m7), .int .i64 (T1 z G.m1 G.m4 G.m7), .int .i64 (T2 z G.m1 G.m4 G.m7)]) := (p21_ hF.out) (hw 20 (by decide))
          have e21 : s 45 = .slice (some ⟨(b 21), 0, none⟩) 1 1 := ((p22_ hF.out) (hw 21 (by decide))).1
          have le21 : wr.heap.size ≤ b 21 := ((p22_ hF.out) (hw 21 (by decide))).2
          dsimp only
          go_simp
          exact hK.out (ups (ups (ups (ups (ups (ups (ups (ups (ups (ups (ups (ups (ups (ups (ups (ups (ups (ups (ups (ups (ups (ups (ups s 24 (u1_)) 25 (.slice (some ⟨blk, off, none⟩) n cap)) 26 (.int .i64 k)) 27 (.pointer (some ⟨blk, off + k * 12, none⟩))) 28 ((.agg #[.int .i64 z.m0, .int .i64 z.m1, .int .i64 z.m2, .int .i64 z.m3, .int .i64 z.m4, .int .i64 z.m5, .int .i64 z.m6, .int .i64 z.m7, .int .i64 z.m8, .int .i64 z.tx, .int .i64 z.ty, .int .i64 z.tz]))) 29 (.int .i64 1)) 30 (.pointer (some ⟨D, 0, none⟩))) 31 (.pointer (some ⟨D, 1, none⟩))) 32 (.int .i64 G.m1)) 33 (.int .i64 1)) 34 (.int .i64 4)) 35 (.pointer (some ⟨D, 0, none⟩))) 36 (.pointer (some ⟨D, 4, none⟩))) 37 (.int .i64 G.m4)) 38 (.int .i64 1)) 39 (.int .i64 7)) 40 (.pointer (some ⟨D, 0, none⟩))) 41 (.pointer (some ⟨D, 7, none⟩))) 42 (.int .i64 G.m7)) 43 ((.agg #[.int .i64 G.m1, .int .i64 G.m4, .int .i64 G.m7]))) 44 ((.agg #[.int .i64 (T0 z G.m1 G.m4 G.m7), .int .i64 (T1 z G.m1 G.m4 G.m7), .int .i64 (T2 z G.m1 G.m4 G.m7)]))) 45 (.slice (some ⟨(b 21), 0, none⟩) 1 1)) 5 (s 46)) b _ ⟨hB, (fun _ => rfl), (fun _ => rfl), (fun _ => rfl), (fun _ => rfl), (fun _ => rfl), (fun _ => rfl), (fun _ => rfl), (fun _ => rfl), (fun _ => rfl), (fun _ => rfl), (fun _ => rfl), (fun _ => rfl), (fun _ => rfl), (fun _ => rfl), (fun _ => rfl), (fun _ => rfl), (fun _ => rfl), (fun _ => rfl), (fun _ => rfl), (fun _ => rfl), (fun _ => rfl), (fun _ => ⟨rfl, le21⟩), (p23_ hF.out), (p24_ hF.out), (p25_ hF.out), (fun _ => rfl), (fun h => nomatch h), (fun _ => hw 0 (by decide)), (fun _ => hw 22 (by decide))⟩
        exact StepsF.nil
      intro d s b w2 hF hall
      replace hF := Lib.hid hF
      have hB : Below wr.heap.size wr w2 := (p0_ hF.out)
      try dsimp only
      have e0 : s 24 = u1_ := (p1_ hF.out) (hall 0 (by decide))
      have e1 : s 25 = .slice (some ⟨blk, off, none⟩) n cap := (p2_ hF.out) (hall 1 (by decide))
      have e2 : s 26 = .int .i64 k := (p3_ hF.out) (hall 2 (by decide))
      have e3 : s 27 = .pointer (some ⟨blk, off + k * 12, none⟩) := (p4_ hF.out) (hall 3 (by decide))
      have e4 : s 28 = (.agg #[.int .i64 z.m0, .int .i64 z.m1, .int .i64 z.m2, .int .i64 z.m3, .int .i64 z.m4, .int .i64 z.m5, .int .i64 z.m6, .int .i64 z.m7, .int .i64 z.m8, .int .i64 z.tx, .int .i64 z.ty, .int .i64 z.tz]) := (p5_ hF.out) (hall 4 (by decide))
      have e5 : s 29 = .int .i64 1 := (p6_ hF.out) (hall 5 (by decide))
      have e6 : s 30 = .pointer (some ⟨D, 0, none⟩) := (p7_ hF.out) (hall 6 (by decide))
      have e7 : s 31 = .pointer (some ⟨D, 1, none⟩) := (p8_ hF.out) (hall 7 (by decide))
      have e8 : s 32 = .int .i64 G.m1 := (p9_ hF.out) (hall 8 (by decide))
      have e9 : s 33 = .int .i64 1 := (p10_ hF.out) (hall 9 (by decide))
      have e10 : s 34 = .int .i64 4 := (p11_ hF.out) (hall 10 (by decide))
      have e11 : s 35 = .pointer (some ⟨D, 0, none⟩) := (p12_ hF.out) (hall 11 (by decide))
      have e12 : s 36 = .pointer (some ⟨D, 4, none⟩) := (p13_ hF.out) (hall 12 (by decide))
      have e13 : s 37 = .int .i64 G.m4 := (p14_ hF.out) (hall 13 (by decide))
      have e14 : s 38 = .int .i64 1 := (p15_ hF.out) (hall 14 (by decide))
      have e15 : s 39 = .int .i64 7 := (p16_ hF.out) (hall 15 (by decide))
      have e16 : s 40 = .pointer (some ⟨D, 0, none⟩) := (p17_ hF.out) (hall 16 (by decide))
      have e17 : s 41 = .pointer (some ⟨D, 7, none⟩) := (p18_ hF.out) (hall 17 (by decide))
      have e18 : s 42 = .int .i64 G.m7 := (p19_ hF.out) (hall 18 (by decide))
      have e19 : s 43 = (.agg #[.int .i64 G.m1, .int .i64 G.m4, .int .i64 G.m7]) := (p20_ hF.out) (hall 19 (by decide))
      have e20 : s 44 = (.agg #[.int .i64 (T0 z G.m1 G.m4 G.m7), .int .i64 (T1 z G.m1 G.m4 G.m7), .int .i64 (T2 z G.m1 G.m4 G.m7)]) := (p21_ hF.out) (hall 20 (by decide))
      have e21 : s 45 = .slice (some ⟨(b 21), 0, none⟩) 1 1 := ((p22_ hF.out) (hall 21 (by decide))).1
      have le21 : wr.heap.size ≤ b 21 := ((p22_ hF.out) (hall 21 (by decide))).2
      have f22 := (p25_ hF.out) (hall 22 (by decide))
      have e23 : s 5 = s 46 := (p26_ hF.out) (hall 23 (by decide))
      rw [e0, e1, e2, e3, e4, e5, e6, e7, e8, e9, e10, e11, e12, e13, e14, e15, e16, e17, e18, e19, e20, e21, e23]
      clear hall hF e0 e1 e2 e3 e4 e5 e6 e7 e8 e9 e10 e11 e12 e13 e14 e15 e16 e17 e18 e19 e20 e21 e23
      obtain ⟨nw, hz⟩ : ∃ x, x = b 21 := ⟨_, rfl⟩
      rw [← hz] at le21 ⊢
      clear hz
      obtain ⟨u2_, hz⟩ : ∃ x, x = s 46 := ⟨_, rfl⟩
      rw [← hz] at f22 ⊢
      clear hz
      clear d s b
      have hs2 := hB; clear hB
      have ow2 := Lib.hid f22
      clear f22 ow1 hs1
      go_wp2_with (fail)
      rw [rounds_succ]
      go_wp2_with (fail)
      refine wp_region_fun 24 (by kernel_rfl) (by kernel_rfl) rfl (fun s b => ⟨#[.slice (some ⟨blk, off, none⟩) n cap, undef, .pointer (some ⟨R, 0, none⟩), .pointer (some ⟨D, 0, none⟩), .int .i64 k, s 5, .int .i64 2, .slice (some ⟨blk, off, none⟩) n cap, .int .i64 n, .bool false, undef, .slice (some ⟨blk, off, none⟩) n cap, .pointer (some ⟨blk, off, none⟩), (.agg #[.int .i64 z0.m0, .int .i64 z0.m1, .int .i64 z0.m2, .int .i64 z0.m3, .int .i64 z0.m4, .int .i64 z0.m5, .int .i64 z0.m6, .int .i64 z0.m7, .int .i64 z0.m8, .int .i64 z0.tx, .int .i64 z0.ty, .int .i64 z0.tz]), .int .i64 k, .slice (some ⟨blk, off, none⟩) n cap, .int .i64 n, .bool true, u18, u19, .int .i64 2, .bool true, .int .i64 1, .int .i64 2, s 24, s 25, s 26, s 27, s 28, s 29, s 30, s 31, s 32, s 33, s 34, s 35, s 36, s 37, s 38, s 39, s 40, s 41, s 42, s 43, s 44, s 45, s 46, u47, u48, u49, u50, u51, u52, u53, u54, u55, u56, u57, undef], []⟩) (fun d s b w => (Below wr.heap.size wr w) ∧ (d 0 = true → s 24 = u2_) ∧ (d 1 = true → s 25 = .slice (some ⟨blk, off, none⟩) n cap) ∧ (d 2 = true → s 26 = .int .i64 k) ∧ (d 3 = true → s 27 = .pointer (some ⟨blk, off + k * 12, none⟩)) ∧ (d 4 = true → s 28 = (.agg #[.int .i64 z.m0, .int .i64 z.m1, .int .i64 z.m2, .int .i64 z.m3, .int .i64 z.m4, .int .i64 z.m5, .int .i64 z.m6, .int .i64 z.m7, .int .i64 z.m8, .int .i64 z.tx, .int .i64 z.ty, .int .i64 z.tz])) ∧ (d 5 = true → s 29 = .int .i64 2) ∧ (d 6 = true → s 30 = .pointer (some ⟨D, 0, none⟩)) ∧ (d 7 = true → s 31 = .pointer (some ⟨D, 2, none⟩)) ∧ (d 8 = true → s 32 = .int .i64 G.m2) ∧ (d 9 = true → s 33 = .int .i64 2) ∧ (d 10 = true → s 34 = .int .i64 5) ∧ (d 11 = true → s 35 = .pointer (some ⟨D, 0, none⟩)) ∧ (d 12 = true → s 36 = .pointer (some ⟨D, 5, none⟩)) ∧ (d 13 = true → s 37 = .int .i64 G.m5) ∧ (d 14 = true → s 38 = .int .i64 2) ∧ (d 15 = true → s 39 = .int .i64 8) ∧ (d 16 = true → s 40 = .pointer (some ⟨D, 0, none⟩)) ∧ (d 17 = true → s 41 = .pointer (some ⟨D, 8, none⟩)) ∧ (d 18 = true → s 42 = .int .i64 G.m8) ∧ (d 19 = true → s 43 = (.agg #[.int .i64 G.m2, .int .i64 G.m5, .int .i64 G.m8])) ∧ (d 20 = true → s 44 = (.agg #[.int .i64 (T0 z G.m2 G.m5 G.m8), .int .i64 (T1 z G.m2 G.m5 G.m8), .int .i64 (T2 z G.m2 G.m5 G.m8)])) ∧ (d 21 = true → s 45 = .slice (some ⟨(b 21), 0, none⟩) 1 1 ∧ wr.heap.size ≤ b 21) ∧ (d 21 = true → d 22 = false → Own (b 21) [.int .i64 (T0 z G.m2 G.m5 G.m8), .int .i64 (T1 z G.m2 G.m5 G.m8), .int .i64 (T2 z G.m2 G.m5 G.m8)] w) ∧ (d 22 = false → w.ownsRow wr.heap.size 36 3 u2_ 2 [.int .i64 (T0 z G.m0 G.m3 G.m6), .int .i64 (T1 z G.m0 G.m3 G.m6), .int .i64 (T2 z G.m0 G.m3 G.m6), .int .i64 (T0 z G.m1 G.m4 G.m7), .int .i64 (T1 z G.m1 G.m4 G.m7), .int .i64 (T2 z G.m1 G.m4 G.m7)]) ∧ (d 22 = true → w.ownsRow wr.heap.size 36 3 (s 46) (2 + 1) ([.int .i64 (T0 z G.m0 G.m3 G.m6), .int .i64 (T1 z G.m0 G.m3 G.m6), .int .i64 (T2 z G.m0 G.m3 G.m6), .int .i64 (T0 z G.m1 G.m4 G.m7), .int .i64 (T1 z G.m1 G.m4 G.m7), .int .i64 (T2 z G.m1 G.m4 G.m7)] ++ [.int .i64 (T0 z G.m2 G.m5 G.m8), .int .i64 (T1 z G.m2 G.m5 G.m8), .int .i64 (T2 z G.m2 G.m5 G.m8)])) ∧ (d 23 = true → s 5 = s 46) ∧ (d 23 = false → s 5 = u2_) ∧ (d 23 = true → d 0 = true) ∧ (d 23 = true → d 22 = true)) rfl ?h0w3 (?stw3 : StepsF _ _ _ _ 24 _ _ [0, 1, 2, 3, 4, 5, 6, 7, 8, 9, 10, 11, 12, 13, 14, 15, 16, 17, 18, 19, 20, 21, 22, 23]) ?dnw3
      case h0w3 => exact ⟨Below.drew hs2, (fun h => nomatch h), (fun h => nomatch h), (fun h => nomatch h), (fun h => nomatch h), (fun h => nomatch h), (fun h => nomatch h), (fun h => nomatch h), (fun h => nomatch h), (fun h => nomatch h), (fun h => nomatch h), (fun h => nomatch h), (fun h => nomatch h), (fun h => nomatch h), (fun h => nomatch h), (fun h => nomatch h), (fun h => nomatch h), (fun h => nomatch h), (fun h => nomatch h), (fun h => nomatch h), (fun h => nomatch h), (fun h => nomatch h), (fun h => nomatch h), (fun h => nomatch h), (fun _ => row_later ow2.out (Below.refl _ _).drew), (fun h => nomatch h), (fun h => nomatch h), (fun _ => rfl), (fun h => nomatch h), (fun h => nomatch h)⟩
      case stw3 =>
        refine StepsF.cons (o := _) rfl (ws := []) (by kernel_rfl) (by decide) (fun d s b w hF hd hw K hK => ?_) ?_
        · have hB : Below wr.heap.size wr w := (p0_ hF.out)
          have e23 : s 5 = u2_ := (p27_ hF.out) (by cases e : d 23 with | false => rfl | true => exact absurd ((p28_ hF.out) e) (by simp [hd]))
          dsimp only
          go_simp
          exact hK.out (ups (ups s 5 (u2_)) 24 (u2_)) b _ ⟨hB, (fun _ => rfl), (p2_ hF.out), (p3_ hF.out), (p4_ hF.out), (p5_ hF.out), (p6_ hF.out), (p7_ hF.out), (p8_ hF.out), (p9_ hF.out), (p10_ hF.out), (p11_ hF.out), (p12_ hF.out), (p13_ hF.out), (p14_ hF.out), (p15_ hF.out), (p16_ hF.out), (p17_ hF.out), (p18_ hF.out), (p19_ hF.out), (p20_ hF.out), (p21_ hF.out), (p22_ hF.out), (p23_ hF.out), (p24_ hF.out), (p25_ hF.out), (fun h => absurd ((p28_ hF.out) h) (by simp [hd])), (fun _ => rfl), (fun _ => rfl), (q29_ hF.out)⟩
        refine StepsF.cons (o := _) rfl (ws := []) (by kernel_rfl) (by decide) (fun d s b w hF hd hw K hK => ?_) ?_
        · have hB : Below wr.heap.size wr w := (p0_ hF.out)
          dsimp only
          go_simp
          exact hK.out (ups s 25 (.slice (some ⟨blk, off, none⟩) n cap)) b _ ⟨hB, (p1_ hF.out), (fun _ => rfl), (p3_ hF.out), (p4_ hF.out), (p5_ hF.out), (p6_ hF.out), (p7_ hF.out), (p8_ hF.out), (p9_ hF.out), (p10_ hF.out), (p11_ hF.out), (p12_ hF.out), (p13_ hF.out), (p14_ hF.out), (p15_ hF.out), (p16_ hF.out), (p17_ hF.out), (p18_ hF.out), (p19_ hF.out), (p20_ hF.out), (p21_ hF.out), (p22_ hF.out), (p23_ hF.out), (p24_ hF.out), (p25_ hF.out), (p26_ hF.out), (p27_ hF.out), (p28_ hF.out), (q29_ hF.out)⟩
        refine StepsF.cons (o := _) rfl (ws := []) (by kernel_rfl) (by decide) (fun d s b w hF hd hw K hK => ?_) ?_
        · have hB : Below wr.heap.size wr w := (p0_ hF.out)
          dsimp only
          go_simp
          exact hK.out (ups s 26 (.int .i64 k)) b _ ⟨hB, (p1_ hF.out), (p2_ hF.out), (fun _ => rfl), (p4_ hF.out), (p5_ hF.out), (p6_ hF.out), (p7_ hF.out), (p8_ hF.out), (p9_ hF.out), (p10_ hF.out), (p11_ hF.out), (p12_ hF.out), (p13_ hF.out), (p14_ hF.out), (p15_ hF.out), (p16_ hF.out), (p17_ hF.out), (p18_ hF.out), (p19_ hF.out), (p20_ hF.out), (p21_ hF.out), (p22_ hF.out), (p23_ hF.out), (p24_ hF.out), (p25_ hF.out), (p26_ hF.out), (p27_ hF.out), (p28_ hF.out), (q29_ hF.out)⟩
        refine StepsF.cons (o := _) rfl (ws := [1, 2]) (by kernel_rfl) (by decide) (fun d s b w hF hd hw K hK => ?_) ?_
        · have hB : Below wr.heap.size wr w := (p0_ hF.out)
          have e1 : s 25 = .slice (some ⟨blk, off, none⟩) n cap := (p2_ hF.out) (hw 1 (by decide))
          have e2 : s 26 = .int .i64 k := (p3_ hF.out) (hw 2 (by decide))
          dsimp only
          go_simp
          exact hK.out (ups (ups (ups s 25 (.slice (some ⟨blk, off, none⟩) n cap)) 26 (.int .i64 k)) 27 (.pointer (some ⟨blk, off + k * 12, none⟩))) b _ ⟨hB, (p1_ hF.out), (fun _ => rfl), (fun _ => rfl), (fun _ => rfl), (p5_ hF.out), (p6_ hF.out), (p7_ hF.out), (p8_ hF.out), (p9_ hF.out), (p10_ hF.out), (p11_ hF.out), (p12_ hF.out), (p13_ hF.out), (p14_ hF.out), (p15_ hF.out), (p16_ hF.out), (p17_ hF.out), (p18_ hF.out), (p19_ hF.out), (p20_ hF.out), (p21_ hF.out), (p22_ hF.out), (p23_ hF.out), (p24_ hF.out), (p25_ hF.out), (p26_ hF.out), (p27_ hF.out), (p28_ hF.out), (q29_ hF.out)⟩
        refine StepsF.cons (o := _) rfl (ws := [3]) (by kernel_rfl) (by decide) (fun d s b w hF hd hw K hK => ?_) ?_
        · have hB : Below wr.heap.size wr w := (p0_ hF.out)
          have e3 : s 27 = .pointer (some ⟨blk, off + k * 12, none⟩) := (p4_ hF.out) (hw 3 (by decide))
          dsimp only
          have oxd := HD.out.later hB
          have xd0 := oxd.at 0 _ rfl
          have xd1 := oxd.at 1 _ rfl
          have xd2 := oxd.at 2 _ rfl
          have xd3 := oxd.at 3 _ rfl
          have xd4 := oxd.at 4 _ rfl
          have xd5 := oxd.at 5 _ rfl
          have xd6 := oxd.at 6 _ rfl
          have xd7 := oxd.at 7 _ rfl
          have xd8 := oxd.at 8 _ rfl
          clear oxd
          have oxz := HX.out.later hB
          have xz0 := oxz.at 0 _ rfl
          have xz1 := oxz.at 1 _ rfl
          have xz2 := oxz.at 2 _ rfl
          have xz3 := oxz.at 3 _ rfl
          have xz4 := oxz.at 4 _ rfl
          have xz5 := oxz.at 5 _ rfl
          have xz6 := oxz.at 6 _ rfl
          have xz7 := oxz.at 7 _ rfl
          have xz8 := oxz.at 8 _ rfl
          have xz9 := oxz.at 9 _ rfl
          have xz10 := oxz.at 10 _ rfl
          have xz11 := oxz.at 11 _ rfl
          clear oxz
          have zx0 : w.cell? ⟨blk, off + k * 12, none⟩ = some (.int .i64 z.m0) := xz0
          clear xz0
          go_simp
          exact hK.out (ups (ups s 27 (.pointer (some ⟨blk, off + k * 12, none⟩))) 28 ((.agg #[.int .i64 z.m0, .int .i64 z.m1, .int .i64 z.m2, .int .i64 z.m3, .int .i64 z.m4, .int .i64 z.m5, .int .i64 z.m6, .int .i64 z.m7, .int .i64 z.m8, .int .i64 z.tx, .int .i64 z.ty, .int .i64 z.tz]))) b _ ⟨hB, (p1_ hF.out), (p2_ hF.out), (p3_ hF.out), (fun _ => rfl), (fun _ => rfl), (p6_ hF.out), (p7_ hF.out), (p8_ hF.out), (p9_ hF.out), (p10_ hF.out), (p11_ hF.out), (p12_ hF.out), (p13_ hF.out), (p14_ hF.out), (p15_ hF.out), (p16_ hF.out), (p17_ hF.out), (p18_ hF.out), (p19_ hF.out), (p20_ hF.out), (p21_ hF.out), (p22_ hF.out), (p23_ hF.out), (p24_ hF.out), (p25_ hF.out), (p26_ hF.out), (p27_ hF.out), (p28_ hF.out), (q29_ hF.out)⟩
        refine StepsF.cons (o := _) rfl (ws := []) (by kernel_rfl) (by decide) (fun d s b w hF hd hw K hK => ?_) ?_
        · have hB : Below wr.heap.size wr w := (p0_ hF.out)
          dsimp only
          go_simp
          exact hK.out (ups s 29 (.int .i64 2)) b _ ⟨hB, (p1_ hF.out), (p2_ hF.out), (p3_ hF.out), (p4_ hF.out), (p5_ hF.out), (fun _ => rfl), (p7_ hF.out), (p8_ hF.out), (p9_ hF.out), (p10_ hF.out), (p11_ hF.out), (p12_ hF.out), (p13_ hF.out), (p14_ hF.out), (p15_ hF.out), (p16_ hF.out), (p17_ hF.out), (p18_ hF.out), (p19_ hF.out), (p20_ hF.out), (p21_ hF.out), (p22_ hF.out), (p23_ hF.out), (p24_ hF.out), (p25_ hF.out), (p26_ hF.out), (p27_ hF.out), (p28_ hF.out), (q29_ hF.out)⟩
        refine StepsF.cons (o := _) rfl (ws := []) (by kernel_rfl) (by decide) (fun d s b w hF hd hw K hK => ?_) ?_
        · have hB : Below wr.heap.size wr w := (p0_ hF.out)
          dsimp only
          go_simp
          exact hK.out (ups s 30 (.pointer (some ⟨D, 0, none⟩))) b _ ⟨hB, (p1_ hF.out), (p2_ hF.out), (p3_ hF.out), (p4_ hF.out), (p5_ hF.out), (p6_ hF.out), (fun _ => rfl), (p8_ hF.out), (p9_ hF.out), (p10_ hF.out), (p11_ hF.out), (p12_ hF.out), (p13_ hF.out), (p14_ hF.out), (p15_ hF.out), (p16_ hF.out), (p17_ hF.out), (p18_ hF.out), (p19_ hF.out), (p20_ hF.out), (p21_ hF.out), (p22_ hF.out), (p23_ hF.out), (p24_ hF.out), (p25_ hF.out), (p26_ hF.out), (p27_ hF.out), (p28_ hF.out), (q29_ hF.out)⟩
        refine StepsF.cons (o := _) rfl (ws := [6, 5]) (by kernel_rfl) (by decide) (fun d s b w hF hd hw K hK => ?_) ?_
        · have hB : Below wr.heap.size wr w := (p0_ hF.out)
          have e5 : s 29 = .int .i64 2 := (p6_ hF.out) (hw 5 (by decide))
          have e6 : s 30 = .pointer (some ⟨D, 0, none⟩) := (p7_ hF.out) (hw 6 (by decide))
          dsimp only
          go_simp
          exact hK.out (ups (ups (ups s 29 (.int .i64 2)) 30 (.pointer (some ⟨D, 0, none⟩))) 31 (.pointer (some ⟨D, 2, none⟩))) b _ ⟨hB, (p1_ hF.out), (p2_ hF.out), (p3_ hF.out), (p4_ hF.out), (p5_ hF.out), (fun _ => rfl), (fun _ => rfl), (fun _ => rfl), (p9_ hF.out), (p10_ hF.out), (p11_ hF.out), (p12_ hF.out), (p13_ hF.out), (p14_ hF.out), (p15_ hF.out), (p16_ hF.out), (p17_ hF.out), (p18_ hF.out), (p19_ hF.out), (p20_ hF.out), (p21_ hF.out), (p22_ hF.out), (p23_ hF.out), (p24_ hF.out), (p25_ hF.out), (p26_ hF.out), (p27_ hF.out), (p28_ hF.out), (q29_ hF.out)⟩
        refine StepsF.cons (o := _) rfl (ws := [7]) (by kernel_rfl) (by decide) (fun d s b w hF hd hw K hK => ?_) ?_
        · have hB : Below wr.heap.size wr w := (p0_ hF.out)
          have e7 : s 31 = .pointer (some ⟨D, 2, none⟩) := (p8_ hF.out) (hw 7 (by decide))
          dsimp only
          have oxd := HD.out.later hB
          have xd0 := oxd.at 0 _ rfl
          have xd1 := oxd.at 1 _ rfl
          have xd2 := oxd.at 2 _ rfl
          have xd3 := oxd.at 3 _ rfl
          have xd4 := oxd.at 4 _ rfl
          have xd5 := oxd.at 5 _ rfl
          have xd6 := oxd.at 6 _ rfl
          have xd7 := oxd.at 7 _ rfl
          have xd8 := oxd.at 8 _ rfl
          clear oxd
          have oxz := HX.out.later hB
          have xz0 := oxz.at 0 _ rfl
          have xz1 := oxz.at 1 _ rfl
          have xz2 := oxz.at 2 _ rfl
          have xz3 := oxz.at 3 _ rfl
          have xz4 := oxz.at 4 _ rfl
          have xz5 := oxz.at 5 _ rfl
          have xz6 := oxz.at 6 _ rfl
          have xz7 := oxz.at 7 _ rfl
          have xz8 := oxz.at 8 _ rfl
          have xz9 := oxz.at 9 _ rfl
          have xz10 := oxz.at 10 _ rfl
          have xz11 := oxz.at 11 _ rfl
          clear oxz
          go_simp
          exact hK.out (ups (ups s 31 (.pointer (some ⟨D, 2, none⟩))) 32 (.int .i64 G.m2)) b _ ⟨hB, (p1_ hF.out), (p2_ hF.out), (p3_ hF.out), (p4_ hF.out), (p5_ hF.out), (p6_ hF.out), (p7_ hF.out), (fun _ => rfl), (fun _ => rfl), (p10_ hF.out), (p11_ hF.out), (p12_ hF.out), (p13_ hF.out), (p14_ hF.out), (p15_ hF.out), (p16_ hF.out), (p17_ hF.out), (p18_ hF.out), (p19_ hF.out), (p20_ hF.out), (p21_ hF.out), (p22_ hF.out), (p23_ hF.out), (p24_ hF.out), (p25_ hF.out), (p26_ hF.out), (p27_ hF.out), (p28_ hF.out), (q29_ hF.out)⟩
        refine StepsF.cons (o := _) rfl (ws := []) (by kernel_rfl) (by decide) (fun d s b w hF hd hw K hK => ?_) ?_
        · have hB : Below wr.heap.size wr w := (p0_ hF.out)
          dsimp only
          go_simp
          exact hK.out (ups s 33 (.int .i64 2)) b _ ⟨hB, (p1_ hF.out), (p2_ hF.out), (p3_ hF.out), (p4_ hF.out), (p5_ hF.out), (p6_ hF.out), (p7_ hF.out), (p8_ hF.out), (p9_ hF.out), (fun _ => rfl), (p11_ hF.out), (p12_ hF.out), (p13_ hF.out), (p14_ hF.out), (p15_ hF.out), (p16_ hF.out), (p17_ hF.out), (p18_ hF.out), (p19_ hF.out), (p20_ hF.out), (p21_ hF.out), (p22_ hF.out), (p23_ hF.out), (p24_ hF.out), (p25_ hF.out), (p26_ hF.out), (p27_ hF.out), (p28_ hF.out), (q29_ hF.out)⟩
        refine StepsF.cons (o := _) rfl (ws := [9]) (by kernel_rfl) (by decide) (fun d s b w hF hd hw K hK => ?_) ?_
        · have hB : Below wr.heap.size wr w := (p0_ hF.out)
          have e9 : s 33 = .int .i64 2 := (p10_ hF.out) (hw 9 (by decide))
          dsimp only
          go_simp
          exact hK.out (ups (ups s 33 (.int .i64 2)) 34 (.int .i64 5)) b _ ⟨hB, (p1_ hF.out), (p2_ hF.out), (p3_ hF.out), (p4_ hF.out), (p5_ hF.out), (p6_ hF.out), (p7_ hF.out), (p8_ hF.out), (p9_ hF.out), (fun _ => rfl), (fun _ => rfl), (p12_ hF.out), (p13_ hF.out), (p14_ hF.out), (p15_ hF.out), (p16_ hF.out), (p17_ hF.out), (p18_ hF.out), (p19_ hF.out), (p20_ hF.out), (p21_ hF.out), (p22_ hF.out), (p23_ hF.out), (p24_ hF.out), (p25_ hF.out), (p26_ hF.out), (p27_ hF.out), (p28_ hF.out), (q29_ hF.out)⟩
        refine StepsF.cons (o := _) rfl (ws := []) (by kernel_rfl) (by decide) (fun d s b w hF hd hw K hK => ?_) ?_
        · have hB : Below wr.heap.size wr w := (p0_ hF.out)
          dsimp only
          go_simp
          exact hK.out (ups s 35 (.pointer (some ⟨D, 0, none⟩))) b _ ⟨hB, (p1_ hF.out), (p2_ hF.out), (p3_ hF.out), (p4_ hF.out), (p5_ hF.out), (p6_ hF.out), (p7_ hF.out), (p8_ hF.out), (p9_ hF.out), (p10_ hF.out), (p11_ hF.out), (fun _ => rfl), (p13_ hF.out), (p14_ hF.out), (p15_ hF.out), (p16_ hF.out), (p17_ hF.out), (p18_ hF.out), (p19_ hF.out), (p20_ hF.out), (p21_ hF.out), (p22_ hF.out), (p23_ hF.out), (p24_ hF.out), (p25_ hF.out), (p26_ hF.out), (p27_ hF.out), (p28_ hF.out), (q29_ hF.out)⟩
        refine StepsF.cons (o := _) rfl (ws := [11, 10]) (by kernel_rfl) (by decide) (fun d s b w hF hd hw K hK => ?_) ?_
        · have hB : Below wr.heap.size wr w := (p0_ hF.out)
          have e10 : s 34 = .int .i64 5 := (p11_ hF.out) (hw 10 (by decide))
          have e11 : s 35 = .pointer (some ⟨D, 0, none⟩) := (p12_ hF.out) (hw 11 (by decide))
          dsimp only
          go_simp
          exact hK.out (ups (ups (ups s 34 (.int .i64 5)) 35 (.pointer (some ⟨D, 0, none⟩))) 36 (.pointer (some ⟨D, 5, none⟩))) b _ ⟨hB, (p1_ hF.out), (p2_ hF.out), (p3_ hF.out), (p4_ hF.out), (p5_ hF.out), (p6_ hF.out), (p7_ hF.out), (p8_ hF.out), (p9_ hF.out), (p10_ hF.out), (fun _ => rfl), (fun _ => rfl), (fun _ => rfl), (p14_ hF.out), (p15_ hF.out), (p16_ hF.out), (p17_ hF.out), (p18_ hF.out), (p19_ hF.out), (p20_ hF.out), (p21_ hF.out), (p22_ hF.out), (p23_ hF.out), (p24_ hF.out), (p25_ hF.out), (p26_ hF.out), (p27_ hF.out), (p28_ hF.out), (q29_ hF.out)⟩
        refine StepsF.cons (o := _) rfl (ws := [12]) (by kernel_rfl) (by decide) (fun d s b w hF hd hw K hK => ?_) ?_
        · have hB : Below wr.heap.size wr w := (p0_ hF.out)
          have e12 : s 36 = .pointer (some ⟨D, 5, none⟩) := (p13_ hF.out) (hw 12 (by decide))
          dsimp only
          have oxd := HD.out.later hB
          have xd0 := oxd.at 0 _ rfl
          have xd1 := oxd.at 1 _ rfl
          have xd2 := oxd.at 2 _ rfl
          have xd3 := oxd.at 3 _ rfl
          have xd4 := oxd.at 4 _ rfl
          have xd5 := oxd.at 5 _ rfl
          have xd6 := oxd.at 6 _ rfl
          have xd7 := oxd.at 7 _ rfl
          have xd8 := oxd.at 8 _ rfl
          clear oxd
          have oxz := HX.out.later hB
          have xz0 := oxz.at 0 _ rfl
          have xz1 := oxz.at 1 _ rfl
          have xz2 := oxz.at 2 _ rfl
          have xz3 := oxz.at 3 _ rfl
          have xz4 := oxz.at 4 _ rfl
          have xz5 := oxz.at 5 _ rfl
          have xz6 := oxz.at 6 _ rfl
          have xz7 := oxz.at 7 _ rfl
          have xz8 := oxz.at 8 _ rfl
          have xz9 := oxz.at 9 _ rfl
          have xz10 := oxz.at 10 _ rfl
          have xz11 := oxz.at 11 _ rfl
          clear oxz
          go_simp
          exact hK.out (ups (ups s 36 (.pointer (some ⟨D, 5, none⟩))) 37 (.int .i64 G.m5)) b _ ⟨hB, (p1_ hF.out), (p2_ hF.out), (p3_ hF.out), (p4_ hF.out), (p5_ hF.out), (p6_ hF.out), (p7_ hF.out), (p8_ hF.out), (p9_ hF.out), (p10_ hF.out), (p11_ hF.out), (p12_ hF.out), (fun _ => rfl), (fun _ => rfl), (p15_ hF.out), (p16_ hF.out), (p17_ hF.out), (p18_ hF.out), (p19_ hF.out), (p20_ hF.out), (p21_ hF.out), (p22_ hF.out), (p23_ hF.out), (p24_ hF.out), (p25_ hF.out), (p26_ hF.out), (p27_ hF.out), (p28_ hF.out), (q29_ hF.out)⟩
        refine StepsF.cons (o := _) rfl (ws := []) (by kernel_rfl) (by decide) (fun d s b w hF hd hw K hK => ?_) ?_
        · have hB : Below wr.heap.size wr w := (p0_ hF.out)
          dsimp only
          go_simp
          exact hK.out (ups s 38 (.int .i64 2)) b _ ⟨hB, (p1_ hF.out), (p2_ hF.out), (p3_ hF.out), (p4_ hF.out), (p5_ hF.out), (p6_ hF.out), (p7_ hF.out), (p8_ hF.out), (p9_ hF.out), (p10_ hF.out), (p11_ hF.out), (p12_ hF.out), (p13_ hF.out), (p14_ hF.out), (fun _ => rfl), (p16_ hF.out), (p17_ hF.out), (p18_ hF.out), (p19_ hF.out), (p20_ hF.out), (p21_ hF.out), (p22_ hF.out), (p23_ hF.out), (p24_ hF.out), (p25_ hF.out), (p26_ hF.out), (p27_ hF.out), (p28_ hF.out), (q29_ hF.out)⟩
        refine StepsF.cons (o := _) rfl (ws := [14]) (by kernel_rfl) (by decide) (fun d s b w hF hd hw K hK => ?_) ?_
        · have hB : Below wr.heap.size wr w := (p0_ hF.out)
          have e14 : s 38 = .int .i64 2 := (p15_ hF.out) (hw 14 (by decide))
          dsimp only
          go_simp
          exact hK.out (ups (ups s 38 (.int .i64 2)) 39 (.int .i64 8)) b _ ⟨hB, (p1_ hF.out), (p2_ hF.out), (p3_ hF.out), (p4_ hF.out), (p5_ hF.out), (p6_ hF.out), (p7_ hF.out), (p8_ hF.out), (p9_ hF.out), (p10_ hF.out), (p11_ hF.out), (p12_ hF.out), (p13_ hF.out), (p14_ hF.out), (fun _ => rfl), (fun _ => rfl), (p17_ hF.out), (p18_ hF.out), (p19_ hF.out), (p20_ hF.out), (p21_ hF.out), (p22_ hF.out), (p23_ hF.out), (p24_ hF.out), (p25_ hF.out), (p26_ hF.out), (p27_ hF.out), (p28_ hF.out), (q29_ hF.out)⟩
        refine StepsF.cons (o := _) rfl (ws := []) (by kernel_rfl) (by decide) (fun d s b w hF hd hw K hK => ?_) ?_
        · have hB : Below wr.heap.size wr w := (p0_ hF.out)
          dsimp only
          go_simp
          exact hK.out (ups s 40 (.pointer (some ⟨D, 0, none⟩))) b _ ⟨hB, (p1_ hF.out), (p2_ hF.out), (p3_ hF.out), (p4_ hF.out), (p5_ hF.out), (p6_ hF.out), (p7_ hF.out), (p8_ hF.out), (p9_ hF.out), (p10_ hF.out), (p11_ hF.out), (p12_ hF.out), (p13_ hF.out), (p14_ hF.out), (p15_ hF.out), (p16_ hF.out), (fun _ => rfl), (p18_ hF.out), (p19_ hF.out), (p20_ hF.out), (p21_ hF.out), (p22_ hF.out), (p23_ hF.out), (p24_ hF.out), (p25_ hF.out), (p26_ hF.out), (p27_ hF.out), (p28_ hF.out), (q29_ hF.out)⟩
        refine StepsF.cons (o := _) rfl (ws := [16, 15]) (by kernel_rfl) (by decide) (fun d s b w hF hd hw K hK => ?_) ?_
        · have hB : Below wr.heap.size wr w := (p0_ hF.out)
          have e15 : s 39 = .int .i64 8 := (p16_ hF.out) (hw 15 (by decide))
          have e16 : s 40 = .pointer (some ⟨D, 0, none⟩) := (p17_ hF.out) (hw 16 (by decide))
          dsimp only
          go_simp
          exact hK.out (ups (ups (ups s 39 (.int .i64 8)) 40 (.pointer (some ⟨D, 0, none⟩))) 41 (.pointer (some ⟨D, 8, none⟩))) b _ ⟨hB, (p1_ hF.out), (p2_ hF.out), (p3_ hF.out), (p4_ hF.out), (p5_ hF.out), (p6_ hF.out), (p7_ hF.out), (p8_ hF.out), (p9_ hF.out), (p10_ hF.out), (p11_ hF.out), (p12_ hF.out), (p13_ hF.out), (p14_ hF.out), (p15_ hF.out), (fun _ => rfl), (fun _ => rfl), (fun _ => rfl), (p19_ hF.out), (p20_ hF.out), (p21_ hF.out), (p22_ hF.out), (p23_ hF.out), (p24_ hF.out), (p25_ hF.out), (p26_ hF.out), (p27_ hF.out), (p28_ hF.out), (q29_ hF.out)⟩
        refine StepsF.cons (o := _) rfl (ws := [17]) (by kernel_rfl) (by decide) (fun d s b w hF hd hw K hK => ?_) ?_
        · have hB : Below wr.heap.size wr w := (p0_ hF.out)
          have e17 : s 41 = .pointer (some ⟨D, 8, none⟩) := (p18_ hF.out) (hw 17 (by decide))
          dsimp only
          have oxd := HD.out.later hB
          have xd0 := oxd.at 0 _ rfl
          have xd1 := oxd.at 1 _ rfl
          have xd2 := oxd.at 2 _ rfl
          have xd3 := oxd.at 3 _ rfl
          have xd4 := oxd.at 4 _ rfl
          have xd5 := oxd.at 5 _ rfl
          have xd6 := oxd.at 6 _ rfl
          have xd7 := oxd.at 7 _ rfl
          have xd8 := oxd.at 8 _ rfl
          clear oxd
          have oxz := HX.out.later hB
          have xz0 := oxz.at 0 _ rfl
          have xz1 := oxz.at 1 _ rfl
          have xz2 := oxz.at 2 _ rfl
          have xz3 := oxz.at 3 _ rfl
          have xz4 := oxz.at 4 _ rfl
          have xz5 := oxz.at 5 _ rfl
          have xz6 := oxz.at 6 _ rfl
          have xz7 := oxz.at 7 _ rfl
          have xz8 := oxz.at 8 _ rfl
          have xz9 := oxz.at 9 _ rfl
          have xz10 := oxz.at 10 _ rfl
          have xz11 := oxz.at 11 _ rfl
          clear oxz
          go_simp
          exact hK.out (ups (ups s 41 (.pointer (some ⟨D, 8, none⟩))) 42 (.int .i64 G.m8)) b _ ⟨hB, (p1_ hF.out), (p2_ hF.out), (p3_ hF.out), (p4_ hF.out), (p5_ hF.out), (p6_ hF.out), (p7_ hF.out), (p8_ hF.out), (p9_ hF.out), (p10_ hF.out), (p11_ hF.out), (p12_ hF.out), (p13_ hF.out), (p14_ hF.out), (p15_ hF.out), (p16_ hF.out), (p17_ hF.out), (fun _ => rfl), (fun _ => rfl), (p20_ hF.out), (p21_ hF.out), (p22_ hF.out), (p23_ hF.out), (p24_ hF.out), (p25_ hF.out), (p26_ hF.out), (p27_ hF.out), (p28_ hF.out), (q29_ hF.out)⟩
        refine StepsF.cons (o := _) rfl (ws := [8, 13, 18]) (by kernel_rfl) (by decide) (fun d s b w hF hd hw K hK => ?_) ?_
        · have hB : Below wr.heap.size wr w := (p0_ hF.out)
          have e8 : s 32 = .int .i64 G.m2 := (p9_ hF.out) (hw 8 (by decide))
          have e13 : s 37 = .int .i64 G.m5 := (p14_ hF.out) (hw 13 (by decide))
          have e18 : s 42 = .int .i64 G.m8 := (p19_ hF.out) (hw 18 (by decide))
          dsimp only
          go_simp
          exact hK.out (ups (ups (ups (ups s 32 (.int .i64 G.m2)) 37 (.int .i64 G.m5)) 42 (.int .i64 G.m8)) 43 ((.agg #[.int .i64 G.m2, .int .i64 G.m5, .int .i64 G.m8]))) b _ ⟨hB, (p1_ hF.out), (p2_ hF.out), (p3_ hF.out), (p4_ hF.out), (p5_ hF.out), (p6_ hF.out), (p7_ hF.out), (p8_ hF.out), (fun _ => rfl), (p10_ hF.out), (p11_ hF.out), (p12_ hF.out), (p13_ hF.out), (fun _ => rfl), (p15_ hF.out), (p16_ hF.out), (p17_ hF.out), (p18_ hF.out), (fun _ => rfl), (fun _ => rfl), (p21_ hF.out), (p22_ hF.out), (p23_ hF.out), (p24_ hF.out), (p25_ hF.out), (p26_ hF.out), (p27_ hF.out), (p28_ hF.out), (q29_ hF.out)⟩
        refine StepsF.cons (o := _) rfl (ws := [4, 19]) (by kernel_rfl) (by decide) (fun d s b w hF hd hw K hK => ?_) ?_
        · have hB : Below wr.heap.size wr w := (p0_ hF.out)
          have e4 : s 28 = (.agg #[.int .i64 z.m0, .int .i64 z.m1, .int .i64 z.m2, .int .i64 z.m3, .int .i64 z.m4, .int .i64 z.m5, .int .i64 z.m6, .int .i64 z.m7, .int .i64 z.m8, .int .i64 z.tx, .int .i64 z.ty, .int .i64 z.tz]) := (p5_ hF.out) (hw 4 (by decide))
          have e19 : s 43 = (.agg #[.int .i64 G.m2, .int .i64 G.m5, .int .i64 G.m8]) := (p20_ hF.out) (hw 19 (by decide))
          dsimp only
          go_simp
          go_at_call 91
          refine (TU.out _ _ _ hG.2.2.1 hG.2.2.2.2.2.1 hG.2.2.2.2.2.2.2.2.1 _).mono ?_
          rintro e w1 ⟨rfl, hb⟩
          exact hK.out (ups (ups (ups s 28 ((.agg #[.int .i64 z.m0, .int .i64 z.m1, .int .i64 z.m2, .int .i64 z.m3, .int .i64 z.m4, .int .i64 z.m5, .int .i64 z.m6, .int .i64 z.m7, .int .i64 z.m8, .int .i64 z.tx, .int .i64 z.ty, .int .i64 z.tz]))) 43 ((.agg #[.int .i64 G.m2, .int .i64 G.m5, .int .i64 G.m8]))) 44 ((.agg #[.int .i64 (T0 z G.m2 G.m5 G.m8), .int .i64 (T1 z G.m2 G.m5 G.m8), .int .i64 (T2 z G.m2 G.m5 G.m8)]))) b _ ⟨(Below.go hB hb), (p1_ hF.out), (p2_ hF.out), (p3_ hF.out), (p4_ hF.out), (fun _ => rfl), (p6_ hF.out), (p7_ hF.out), (p8_ hF.out), (p9_ hF.out), (p10_ hF.out), (p11_ hF.out), (p12_ hF.out), (p13_ hF.out), (p14_ hF.out), (p15_ hF.out), (p16_ hF.out), (p17_ hF.out), (p18_ hF.out), (p19_ hF.out), (fun _ => rfl), (fun _ => rfl), (p22_ hF.out), (fun h0 h1 => ((p23_ hF.out) h0 h1).later hb), (fun h0 => row_later ((p24_ hF.out) h0) hb), (fun h0 => row_later ((p25_ hF.out) h0) hb), (p26_ hF.out), (p27_ hF.out), (p28_ hF.out), (q29_ hF.out)⟩
        refine StepsF.cons (o := _) rfl (ws := [20]) (by kernel_rfl) (by decide) (fun d s b w hF hd hw K hK => ?_) ?_
        · have hB : Below wr.heap.size wr w := (p0_ hF.out)
          have e20 : s 44 = (.agg #[.int .i64 (T0 z G.m2 G.m5 G.m8), .int .i64 (T1 z G.m2 G.m5 G.m8), .int .i64 (T2 z G.m2 G.m5 G.m8)]) := (p21_ hF.out) (hw 20 (by decide))
          dsimp only
          go_simp
          exact hK.out (ups (ups s 44 ((.agg #[.int .i64 (T0 z G.m2 G.m5 G.m8), .int .i64 (T1 z G.m2 G.m5 G.m8), .int .i64 (T2 z G.m2 G.m5 G.m8)]))) 45 (.slice (some ⟨w.heap.size, 0, none⟩) 1 1)) (ups b 21 w.heap.size) _ ⟨(hB.alloc hB.size _), (p1_ hF.out), (p2_ hF.out), (p3_ hF.out), (p4_ hF.out), (p5_ hF.out), (p6_ hF.out), (p7_ hF.out), (p8_ hF.out), (p9_ hF.out), (p10_ hF.out), (p11_ hF.out), (p12_ hF.out), (p13_ hF.out), (p14_ hF.out), (p15_ hF.out), (p16_ hF.out), (p17_ hF.out), (p18_ hF.out), (p19_ hF.out), (p20_ hF.out), (fun _ => rfl), (fun _ => ⟨rfl, hB.size⟩), (fun _ _ => Own.newAt rfl), (fun h0 => row_later ((p24_ hF.out) h0) (Below.al (Below.refl _ _))), (fun h0 => row_later ((p25_ hF.out) h0) (Below.al (Below.refl _ _))), (p26_ hF.out), (p27_ hF.out), (p28_ hF.out), (q29_ hF.out)⟩
        refine StepsF.cons (o := _) rfl (ws := [0, 21, 20]) (by kernel_rfl) (by decide) (fun d s b w hF hd hw K hK => ?_) ?_
        · have hB : Below wr.heap.size wr w := (p0_ hF.out)
          have e23 : s 5 = u2_ := (p27_ hF.out) (by cases e : d 23 with | false => rfl | true => exact absurd ((q29_ hF.out) e) (by simp [hd]))
          have e0 : s 24 = u2_ := (p1_ hF.out) (hw 0 (by decide))
          have e20 : s 44 = (.agg #[.int .i64 (T0 z G.m2 G.m5 G.m8), .int .i64 (T1 z G.m2 G.m5 G.m8), .int .i64 (T2 z G.m2 G.m5 G.m8)]) := (p21_ hF.out) (hw 20 (by decide))
          have e21 : s 45 = .slice (some ⟨(b 21), 0, none⟩) 1 1 := ((p22_ hF.out) (hw 21 (by decide))).1
          have le21 : wr.heap.size ≤ b 21 := ((p22_ hF.out) (hw 21 (by decide))).2
          have hi := HI.out
          have hz0 := HZ0.out
          have hz1 := HZ1.out
          have hz2 := HZ2.out
          have go := (p24_ hF.out) hd; have nb := (p23_ hF.out) (hw 21 (by decide)) hd
          refine step_append_to rfl (.tmp 24) (.tmp 45) 77 rfl 36 i0 (.agg #[.int .i64 0, .int .i64 0, .int .i64 0]) 3 24 Try.underlying77 hi hz0 hz1 hz2 rfl (by decide) wr.heap.size u2_ 2 [.int .i64 (T0 z G.m0 G.m3 G.m6), .int .i64 (T1 z G.m0 G.m3 G.m6), .int .i64 (T2 z G.m0 G.m3 G.m6), .int .i64 (T0 z G.m1 G.m4 G.m7), .int .i64 (T1 z G.m1 G.m4 G.m7), .int .i64 (T2 z G.m1 G.m4 G.m7)] ?a1 go ⟨b 21, 0, none⟩ 1 1 [.int .i64 (T0 z G.m2 G.m5 G.m8), .int .i64 (T1 z G.m2 G.m5 G.m8), .int .i64 (T2 z G.m2 G.m5 G.m8)] ?a2 rfl nb.news ?c2 ?c3 ?c4 hB.size ?_
          case a1 => exact e0
          case a2 => exact e21
          case c2 => simp [Value.oneCell']
          case c3 => unfold maxLen; omega
          case c4 => omega
          intro v' w' hown hg
          exact hK.out (ups s 46 (v')) b _ ⟨(Below.gro hB hg go (Nat.le_refl _)), (p1_ hF.out), (p2_ hF.out), (p3_ hF.out), (p4_ hF.out), (p5_ hF.out), (p6_ hF.out), (p7_ hF.out), (p8_ hF.out), (p9_ hF.out), (p10_ hF.out), (p11_ hF.out), (p12_ hF.out), (p13_ hF.out), (p14_ hF.out), (p15_ hF.out), (p16_ hF.out), (p17_ hF.out), (p18_ hF.out), (p19_ hF.out), (p20_ hF.out), (p21_ hF.out), (p22_ hF.out), (fun _ h => nomatch h), (fun h => nomatch h), (fun _ => hown), (fun h => absurd ((q29_ hF.out) h) (by simp [hd])), (p27_ hF.out), (p28_ hF.out), (fun _ => rfl)⟩
        refine StepsF.cons (o := _) rfl (ws := [22, 22, 0, 1, 2, 3, 4, 5, 6, 7, 8, 9, 10, 11, 12, 13, 14, 15, 16, 17, 18, 19, 20, 21, 22]) (by kernel_rfl) (by decide) (fun d s b w hF hd hw K hK => ?_) ?_
        · have hB : Below wr.heap.size wr w := (p0_ hF.out)
          have e0 : s 24 = u2_ := (p1_ hF.out) (hw 0 (by decide))
          have e1 : s 25 = .slice (some ⟨blk, off, none⟩) n cap := (p2_ hF.out) (hw 1 (by decide))
          have e2 : s 26 = .int .i64 k := (p3_ hF.out) (hw 2 (by decide))
          have e3 : s 27 = .pointer (some ⟨blk, off + k * 12, none⟩) := (p4_ hF.out) (hw 3 (by decide))
          have e4 : s 28 = (.agg #[.int .i64 z.m0, .int .i64 z.m1, .int .i64 z.m2, .int .i64 z.m3, .int .i64 z.m4, .int .i64 z.m5, .int .i64 z.m6, .int .i64 z.m7, .int .i64 z.m8, .int .i64 z.tx, .int .i64 z.ty, .int .i64 z.tz]) := (p5_ hF.out) (hw 4 (by decide))
          have e5 : s 29 = .int .i64 2 := (p6_ hF.out) (hw 5 (by decide))
          have e6 : s 30 = .pointer (some ⟨D, 0, none⟩) := (p7_ hF.out) (hw 6 (by decide))
          have e7 : s 31 = .pointer (some ⟨D, 2, none⟩) := (p8_ hF.out) (hw 7 (by decide))
          have e8 : s 32 = .int .i64 G.m2 := (p9_ hF.out) (hw 8 (by decide))
          have e9 : s 33 = .int .i64 2 := (p10_ hF.out) (hw 9 (by decide))
          have e10 : s 34 = .int .i64 5 := (p11_ hF.out) (hw 10 (by decide))
          have e11 : s 35 = .pointer (some ⟨D, 0, none⟩) := (p12_ hF.out) (hw 11 (by decide))
          have e12 : s 36 = .pointer (some ⟨D, 5, none⟩) := (p13_ hF.out) (hw 12 (by decide))
          have e13 : s 37 = .int .i64 G.m5 := (p14_ hF.out) (hw 13 (by decide))
          have e14 : s 38 = .int .i64 2 := (p15_ hF.out) (hw 14 (by decide))
          have e15 : s 39 = .int .i64 8 := (p16_ hF.out) (hw 15 (by decide))
          have e16 : s 40 = .pointer (some ⟨D, 0, none⟩) := (p17_ hF.out) (hw 16 (by decide))
          have e17 : s 41 = .pointer (some ⟨D, 8, none⟩) := (p18_ hF.out) (hw 17 (by decide))
          have e18 : s 42 = .int .i64 G.m8 := (p19_ hF.out) (hw 18 (by decide))
          have e19 : s 43 = (.agg #[.int .i64 G.m2, .int .i64 G.m5, .int .i64 G.m8]) := (p20_ hF.out) (hw 19 (by decide))
          have e20 : s 44 = (.agg #[.int .i64 (T0 z G.m2 G.m5 G.m8), .int .i64 (T1 z G.m2 G.m5 G.m8), .int .i64 (T2 z G.m2 G.m5 G.m8)]) := (p21_ hF.out) (hw 20 (by decide))
          have e21 : s 45 = .slice (some ⟨(b 21), 0, none⟩) 1 1 := ((p22_ hF.out) (hw 21 (by decide))).1
          have le21 : wr.heap.size ≤ b 21 := ((p22_ hF.out) (hw 21 (by decide))).2
          dsimp only
          go_simp
          exact hK.out (ups (ups (ups (ups (ups (ups (ups (ups (ups (ups (ups (ups (ups (ups (ups (ups (ups (ups (ups (ups (ups (ups (ups s 24 (u2_)) 25 (.slice (some ⟨blk, off, none⟩) n cap)) 26 (.int .i64 k)) 27 (.pointer (some ⟨blk, off + k * 12, none⟩))) 28 ((.agg #[.int .i64 z.m0, .int .i64 z.m1, .int .i64 z.m2, .int .i64 z.m3, .int .i64 z.m4, .int .i64 z.m5, .int .i64 z.m6, .int .i64 z.m7, .int .i64 z.m8, .int .i64 z.tx, .int .i64 z.ty, .int .i64 z.tz]))) 29 (.int .i64 2)) 30 (.pointer (some ⟨D, 0, none⟩))) 31 (.pointer (some ⟨D, 2, none⟩))) 32 (.int .i64 G.m2)) 33 (.int .i64 2)) 34 (.int .i64 5)) 35 (.pointer (some ⟨D, 0, none⟩))) 36 (.pointer (some ⟨D, 5, none⟩))) 37 (.int .i64 G.m5)) 38 (.int .i64 2)) 39 (.int .i64 8)) 40 (.pointer (some ⟨D, 0, none⟩))) 41 (.pointer (some ⟨D, 8, none⟩))) 42 (.int .i64 G.m8)) 43 ((.agg #[.int .i64 G.m2, .int .i64 G.m5, .int .i64 G.m8]))) 44 ((.agg #[.int .i64 (T0 z G.m2 G.m5 G.m8), .int .i64 (T1 z G.m2 G.m5 G.m8), .int .i64 (T2 z G.m2 G.m5 G.m8)]))) 45 (.slice (some ⟨(b 21), 0, none⟩) 1 1)) 5 (s 46)) b _ ⟨hB, (fun _ => rfl), (fun _ => rfl), (fun _ => rfl), (fun _ => rfl), (fun _ => rfl), (fun _ => rfl), (fun _ => rfl), (fun _ => rfl), (fun _ => rfl), (fun _ => rfl), (fun _ => rfl), (fun _ => rfl), (fun _ => rfl), (fun _ => rfl), (fun _ => rfl), (fun _ => rfl), (fun _ => rfl), (fun _ => rfl), (fun _ => rfl), (fun _ => rfl), (fun _ => rfl), (fun _ => ⟨rfl, le21⟩), (p23_ hF.out), (p24_ hF.out), (p25_ hF.out), (fun _ => rfl), (fun h => nomatch h), (fun _ => hw 0 (by decide)), (fun _ => hw 22 (by decide))⟩
        exact StepsF.nil
      intro d s b w3 hF hall
      replace hF := Lib.hid hF
      have hB : Below wr.heap.size wr w3 := (p0_ hF.out)
      try dsimp only
      have e0 : s 24 = u2_ := (p1_ hF.out) (hall 0 (by decide))
      have e1 : s 25 = .slice (some ⟨blk, off, none⟩) n cap := (p2_ hF.out) (hall 1 (by decide))
      have e2 : s 26 = .int .i64 k := (p3_ hF.out) (hall 2 (by decide))
      have e3 : s 27 = .pointer (some ⟨blk, off + k * 12, none⟩) := (p4_ hF.out) (hall 3 (by decide))
      have e4 : s 28 = (.agg #[.int .i64 z.m0, .int .i64 z.m1, .int .i64 z.m2, .int .i64 z.m3, .int .i64 z.m4, .int .i64 z.m5, .int .i64 z.m6, .int .i64 z.m7, .int .i64 z.m8, .int .i64 z.tx, .int .i64 z.ty, .int .i64 z.tz]) := (p5_ hF.out) (hall 4 (by decide))
      have e5 : s 29 = .int .i64 2 := (p6_ hF.out) (hall 5 (by decide))
      have e6 : s 30 = .pointer (some ⟨D, 0, none⟩) := (p7_ hF.out) (hall 6 (by decide))
      have e7 : s 31 = .pointer (some ⟨D, 2, none⟩) := (p8_ hF.out) (hall 7 (by decide))
      have e8 : s 32 = .int .i64 G.m2 := (p9_ hF.out) (hall 8 (by decide))
      have e9 : s 33 = .int .i64 2 := (p10_ hF.out) (hall 9 (by decide))
      have e10 : s 34 = .int .i64 5 := (p11_ hF.out) (hall 10 (by decide))
      have e11 : s 35 = .pointer (some ⟨D, 0, none⟩) := (p12_ hF.out) (hall 11 (by decide))
      have e12 : s 36 = .pointer (some ⟨D, 5, none⟩) := (p13_ hF.out) (hall 12 (by decide))
      have e13 : s 37 = .int .i64 G.m5 := (p14_ hF.out) (hall 13 (by decide))
      have e14 : s 38 = .int .i64 2 := (p15_ hF.out) (hall 14 (by decide))
      have e15 : s 39 = .int .i64 8 := (p16_ hF.out) (hall 15 (by decide))
      have e16 : s 40 = .pointer (some ⟨D, 0, none⟩) := (p17_ hF.out) (hall 16 (by decide))
      have e17 : s 41 = .pointer (some ⟨D, 8, none⟩) := (p18_ hF.out) (hall 17 (by decide))
      have e18 : s 42 = .int .i64 G.m8 := (p19_ hF.out) (hall 18 (by decide))
      have e19 : s 43 = (.agg #[.int .i64 G.m2, .int .i64 G.m5, .int .i64 G.m8]) := (p20_ hF.out) (hall 19 (by decide))
      have e20 : s 44 = (.agg #[.int .i64 (T0 z G.m2 G.m5 G.m8), .int .i64 (T1 z G.m2 G.m5 G.m8), .int .i64 (T2 z G.m2 G.m5 G.m8)]) := (p21_ hF.out) (hall 20 (by decide))
      have e21 : s 45 = .slice (some ⟨(b 21), 0, none⟩) 1 1 := ((p22_ hF.out) (hall 21 (by decide))).1
      have le21 : wr.heap.size ≤ b 21 := ((p22_ hF.out) (hall 21 (by decide))).2
      have f22 := (p25_ hF.out) (hall 22 (by decide))
      have e23 : s 5 = s 46 := (p26_ hF.out) (hall 23 (by decide))
      rw [e0, e1, e2, e3, e4, e5, e6, e7, e8, e9, e10, e11, e12, e13, e14, e15, e16, e17, e18, e19, e20, e21, e23]
      clear hall hF e0 e1 e2 e3 e4 e5 e6 e7 e8 e9 e10 e11 e12 e13 e14 e15 e16 e17 e18 e19 e20 e21 e23
      obtain ⟨nw, hz⟩ : ∃ x, x = b 21 := ⟨_, rfl⟩
      rw [← hz] at le21 ⊢
      clear hz
      obtain ⟨u3_, hz⟩ : ∃ x, x = s 46 := ⟨_, rfl⟩
      rw [← hz] at f22 ⊢
      clear hz
      clear d s b
      have hs3 := hB; clear hB
      have ow3 := Lib.hid f22
      clear f22 ow2 hs2
      go_wp2_with (fail)
      rw [rounds_succ]
      go_wp2_with (fail)
      have ow9 : Hid (w3.ownsRow wr.heap.size 36 3 u3_ 3 [.int .i64 (T0 z G.m0 G.m3 G.m6), .int .i64 (T1 z G.m0 G.m3 G.m6), .int .i64 (T2 z G.m0 G.m3 G.m6), .int .i64 (T0 z G.m1 G.m4 G.m7), .int .i64 (T1 z G.m1 G.m4 G.m7), .int .i64 (T2 z G.m1 G.m4 G.m7), .int .i64 (T0 z G.m2 G.m5 G.m8), .int .i64 (T1 z G.m2 G.m5 G.m8), .int .i64 (T2 z G.m2 G.m5 G.m8)]) := Lib.hid ow3.out
      have AX : Hid (∀ v w, w.ownsRow wr.heap.size 36 3 v (3 + 1) ([.int .i64 (T0 z G.m0 G.m3 G.m6), .int .i64 (T1 z G.m0 G.m3 G.m6), .int .i64 (T2 z G.m0 G.m3 G.m6), .int .i64 (T0 z G.m1 G.m4 G.m7), .int .i64 (T1 z G.m1 G.m4 G.m7), .int .i64 (T2 z G.m1 G.m4 G.m7), .int .i64 (T0 z G.m2 G.m5 G.m8), .int .i64 (T1 z G.m2 G.m5 G.m8), .int .i64 (T2 z G.m2 G.m5 G.m8)] ++ [.int .i64 (A0 z G.tx G.ty G.tz), .int .i64 (A1 z G.tx G.ty G.tz), .int .i64 (A2 z G.tx G.ty G.tz)]) → Calls Try.prog 54 #[v] w fun e w' => e = .returned (.agg #[.int .i64 (compF G z).m0, .int .i64 (compF G z).m1, .int .i64 (compF G z).m2, .int .i64 (compF G z).m3, .int .i64 (compF G z).m4, .int .i64 (compF G z).m5, .int .i64 (compF G z).m6, .int .i64 (compF G z).m7, .int .i64 (compF G z).m8, .int .i64 (compF G z).tx, .int .i64 (compF G z).ty, .int .i64 (compF G z).tz]) ∧ Below w.heap.size w w') := Lib.hid fun v w h => by
        obtain ⟨g, c, rfl⟩ : ∃ g c, v = .slice (some ⟨g, 0, none⟩) 4 c := by
          rcases h.2 with ⟨_, h0⟩ | ⟨g, c, _, hv, _⟩
          · omega
          · exact ⟨g, c, hv⟩
        exact RAxes_4 _ _ _ _ _ _ _ _ _ _ _ _ g 0 4 c (by omega) w (row_has h).1
      clear ow3 TU
      refine wp_region_fun 12 (by kernel_rfl) (by kernel_rfl) rfl (fun s b => ⟨#[.slice (some ⟨blk, off, none⟩) n cap, undef, .pointer (some ⟨R, 0, none⟩), .pointer (some ⟨D, 0, none⟩), .int .i64 k, u3_, .int .i64 3, .slice (some ⟨blk, off, none⟩) n cap, .int .i64 n, .bool false, undef, .slice (some ⟨blk, off, none⟩) n cap, .pointer (some ⟨blk, off, none⟩), (.agg #[.int .i64 z0.m0, .int .i64 z0.m1, .int .i64 z0.m2, .int .i64 z0.m3, .int .i64 z0.m4, .int .i64 z0.m5, .int .i64 z0.m6, .int .i64 z0.m7, .int .i64 z0.m8, .int .i64 z0.tx, .int .i64 z0.ty, .int .i64 z0.tz]), .int .i64 k, .slice (some ⟨blk, off, none⟩) n cap, .int .i64 n, .bool true, u18, u19, .int .i64 3, .bool false, .int .i64 2, .int .i64 3, u2_, .slice (some ⟨blk, off, none⟩) n cap, .int .i64 k, .pointer (some ⟨blk, off + k * 12, none⟩), (.agg #[.int .i64 z.m0, .int .i64 z.m1, .int .i64 z.m2, .int .i64 z.m3, .int .i64 z.m4, .int .i64 z.m5, .int .i64 z.m6, .int .i64 z.m7, .int .i64 z.m8, .int .i64 z.tx, .int .i64 z.ty, .int .i64 z.tz]), .int .i64 2, .pointer (some ⟨D, 0, none⟩), .pointer (some ⟨D, 2, none⟩), .int .i64 G.m2, .int .i64 2, .int .i64 5, .pointer (some ⟨D, 0, none⟩), .pointer (some ⟨D, 5, none⟩), .int .i64 G.m5, .int .i64 2, .int .i64 8, .pointer (some ⟨D, 0, none⟩), .pointer (some ⟨D, 8, none⟩), .int .i64 G.m8, (.agg #[.int .i64 G.m2, .int .i64 G.m5, .int .i64 G.m8]), (.agg #[.int .i64 (T0 z G.m2 G.m5 G.m8), .int .i64 (T1 z G.m2 G.m5 G.m8), .int .i64 (T2 z G.m2 G.m5 G.m8)]), .slice (some ⟨nw, 0, none⟩) 1 1, u3_, s 47, s 48, s 49, s 50, s 51, s 52, s 53, s 54, s 55, s 56, s 57, undef], []⟩) (fun d s b w => (d 11 = false → Below wr.heap.size wr w) ∧ (d 0 = true → s 47 = u3_) ∧ (d 1 = true → s 48 = .slice (some ⟨blk, off, none⟩) n cap) ∧ (d 2 = true → s 49 = .int .i64 k) ∧ (d 3 = true → s 50 = .pointer (some ⟨blk, off + k * 12, none⟩)) ∧ (d 4 = true → s 51 = (.agg #[.int .i64 z.m0, .int .i64 z.m1, .int .i64 z.m2, .int .i64 z.m3, .int .i64 z.m4, .int .i64 z.m5, .int .i64 z.m6, .int .i64 z.m7, .int .i64 z.m8, .int .i64 z.tx, .int .i64 z.ty, .int .i64 z.tz])) ∧ (d 5 = true → s 52 = .pointer (some ⟨D, 9, none⟩)) ∧ (d 6 = true → s 53 = (.agg #[.int .i64 G.tx, .int .i64 G.ty, .int .i64 G.tz])) ∧ (d 7 = true → s 54 = (.agg #[.int .i64 (A0 z G.tx G.ty G.tz), .int .i64 (A1 z G.tx G.ty G.tz), .int .i64 (A2 z G.tx G.ty G.tz)])) ∧ (d 8 = true → s 55 = .slice (some ⟨(b 8), 0, none⟩) 1 1 ∧ wr.heap.size ≤ b 8) ∧ (d 8 = true → d 9 = false → Own (b 8) [.int .i64 (A0 z G.tx G.ty G.tz), .int .i64 (A1 z G.tx G.ty G.tz), .int .i64 (A2 z G.tx G.ty G.tz)] w) ∧ (d 9 = false → w.ownsRow wr.heap.size 36 3 u3_ 3 [.int .i64 (T0 z G.m0 G.m3 G.m6), .int .i64 (T1 z G.m0 G.m3 G.m6), .int .i64 (T2 z G.m0 G.m3 G.m6), .int .i64 (T0 z G.m1 G.m4 G.m7), .int .i64 (T1 z G.m1 G.m4 G.m7), .int .i64 (T2 z G.m1 G.m4 G.m7), .int .i64 (T0 z G.m2 G.m5 G.m8), .int .i64 (T1 z G.m2 G.m5 G.m8), .int .i64 (T2 z G.m2 G.m5 G.m8)]) ∧ (d 9 = true → d 11 = false → w.ownsRow wr.heap.size 36 3 (s 56) (3 + 1) ([.int .i64 (T0 z G.m0 G.m3 G.m6), .int .i64 (T1 z G.m0 G.m3 G.m6), .int .i64 (T2 z G.m0 G.m3 G.m6), .int .i64 (T0 z G.m1 G.m4 G.m7), .int .i64 (T1 z G.m1 G.m4 G.m7), .int .i64 (T2 z G.m1 G.m4 G.m7), .int .i64 (T0 z G.m2 G.m5 G.m8), .int .i64 (T1 z G.m2 G.m5 G.m8), .int .i64 (T2 z G.m2 G.m5 G.m8)] ++ [.int .i64 (A0 z G.tx G.ty G.tz), .int .i64 (A1 z G.tx G.ty G.tz), .int .i64 (A2 z G.tx G.ty G.tz)])) ∧ (d 10 = true → s 57 = (.agg #[.int .i64 (compF G z).m0, .int .i64 (compF G z).m1, .int .i64 (compF G z).m2, .int .i64 (compF G z).m3, .int .i64 (compF G z).m4, .int .i64 (compF G z).m5, .int .i64 (compF G z).m6, .int .i64 (compF G z).m7, .int .i64 (compF G z).m8, .int .i64 (compF G z).tx, .int .i64 (compF G z).ty, .int .i64 (compF G z).tz])) ∧ (d 11 = true → ∀ j, j < 11 → d j = true) ∧ (d 11 = true → ∃ w2, Below wr.heap.size wr w2 ∧ w = w2.setCells D 0 [.int .i64 (compF G z).m0, .int .i64 (compF G z).m1, .int .i64 (compF G z).m2, .int .i64 (compF G z).m3, .int .i64 (compF G z).m4, .int .i64 (compF G z).m5, .int .i64 (compF G z).m6, .int .i64 (compF G z).m7, .int .i64 (compF G z).m8, .int .i64 (compF G z).tx, .int .i64 (compF G z).ty, .int .i64 (compF G z).tz])) rfl ?h0w4 (?stw4 : StepsF _ _ _ _ 12 _ _ [0, 1, 2, 3, 4, 5, 6, 7, 8, 9, 10, 11]) ?dnw4
      case h0w4 => exact ⟨fun _ => Below.drew hs3, (fun h => nomatch h), (fun h => nomatch h), (fun h => nomatch h), (fun h => nomatch h), (fun h => nomatch h), (fun h => nomatch h), (fun h => nomatch h), (fun h => nomatch h), (fun h => nomatch h), (fun h => nomatch h), (fun _ => row_later ow9.out (Below.refl _ _).drew), (fun h => nomatch h), (fun h => nomatch h), (fun h => nomatch h), (fun h => nomatch h)⟩
      case stw4 =>
        refine StepsF.cons (o := _) rfl (ws := []) (by kernel_rfl) (by decide) (fun d s b w hF hd hw K hK => ?_) ?_
        · have hk : d 11 = false := by cases e : d 11 with | false => rfl | true => exact absurd ((p14_ hF.out) e 0 (by decide)) (by simp [hd])
          have hB : Below wr.heap.size wr w := (p0_ hF.out) hk
          dsimp only
          go_simp
          exact hK.out (ups s 47 (u3_)) b _ ⟨(fun _ => hB), (fun _ => rfl), (p2_ hF.out), (p3_ hF.out), (p4_ hF.out), (p5_ hF.out), (p6_ hF.out), (p7_ hF.out), (p8_ hF.out), (p9_ hF.out), (p10_ hF.out), (p11_ hF.out), (p12_ hF.out), (p13_ hF.out), (fun h => absurd ((p14_ hF.out) h 0 (by decide)) (by simp [hd])), (fun h => absurd ((p14_ hF.out) h 0 (by decide)) (by simp [hd]))⟩
        refine StepsF.cons (o := _) rfl (ws := []) (by kernel_rfl) (by decide) (fun d s b w hF hd hw K hK => ?_) ?_
        · have hk : d 11 = false := by cases e : d 11 with | false => rfl | true => exact absurd ((p14_ hF.out) e 1 (by decide)) (by simp [hd])
          have hB : Below wr.heap.size wr w := (p0_ hF.out) hk
          dsimp only
          go_simp
          exact hK.out (ups s 48 (.slice (some ⟨blk, off, none⟩) n cap)) b _ ⟨(fun _ => hB), (p1_ hF.out), (fun _ => rfl), (p3_ hF.out), (p4_ hF.out), (p5_ hF.out), (p6_ hF.out), (p7_ hF.out), (p8_ hF.out), (p9_ hF.out), (p10_ hF.out), (p11_ hF.out), (p12_ hF.out), (p13_ hF.out), (fun h => absurd ((p14_ hF.out) h 1 (by decide)) (by simp [hd])), (fun h => absurd ((p14_ hF.out) h 1 (by decide)) (by simp [hd]))⟩
        refine StepsF.cons (o := _) rfl (ws := []) (by kernel_rfl) (by decide) (fun d s b w hF hd hw K hK => ?_) ?_
        · have hk : d 11 = false := by cases e : d 11 with | false => rfl | true => exact absurd ((p14_ hF.out) e 2 (by decide)) (by simp [hd])
          have hB : Below wr.heap.size wr w := (p0_ hF.out) hk
          dsimp only
          go_simp
          exact hK.out (ups s 49 (.int .i64 k)) b _ ⟨(fun _ => hB), (p1_ hF.out), (p2_ hF.out), (fun _ => rfl), (p4_ hF.out), (p5_ hF.out), (p6_ hF.out), (p7_ hF.out), (p8_ hF.out), (p9_ hF.out), (p10_ hF.out), (p11_ hF.out), (p12_ hF.out), (p13_ hF.out), (fun h => absurd ((p14_ hF.out) h 2 (by decide)) (by simp [hd])), (fun h => absurd ((p14_ hF.out) h 2 (by decide)) (by simp [hd]))⟩
        refine StepsF.cons (o := _) rfl (ws := [1, 2]) (by kernel_rfl) (by decide) (fun d s b w hF hd hw K hK => ?_) ?_
        · have hk : d 11 = false := by cases e : d 11 with | false => rfl | true => exact absurd ((p14_ hF.out) e 3 (by decide)) (by simp [hd])
          have hB : Below wr.heap.size wr w := (p0_ hF.out) hk
          have e1 : s 48 = .slice (some ⟨blk, off, none⟩) n cap := (p2_ hF.out) (hw 1 (by decide))
          have e2 : s 49 = .int .i64 k := (p3_ hF.out) (hw 2 (by decide))
          dsimp only
          go_simp
          exact hK.out (ups (ups (ups s 48 (.slice (some ⟨blk, off, none⟩) n cap)) 49 (.int .i64 k)) 50 (.pointer (some ⟨blk, off + k * 12, none⟩))) b _ ⟨(fun _ => hB), (p1_ hF.out), (fun _ => rfl), (fun _ => rfl), (fun _ => rfl), (p5_ hF.out), (p6_ hF.out), (p7_ hF.out), (p8_ hF.out), (p9_ hF.out), (p10_ hF.out), (p11_ hF.out), (p12_ hF.out), (p13_ hF.out), (fun h => absurd ((p14_ hF.out) h 3 (by decide)) (by simp [hd])), (fun h => absurd ((p14_ hF.out) h 3 (by decide)) (by simp [hd]))⟩
        refine StepsF.cons (o := _) rfl (ws := [3]) (by kernel_rfl) (by decide) (fun d s b w hF hd hw K hK => ?_) ?_
        · have hk : d 11 = false := by cases e : d 11 with | false => rfl | true => exact absurd ((p14_ hF.out) e 4 (by decide)) (by simp [hd])
          have hB : Below wr.heap.size wr w := (p0_ hF.out) hk
          have e3 : s 50 = .pointer (some ⟨blk, off + k * 12, none⟩) := (p4_ hF.out) (hw 3 (by decide))
          dsimp only
          have oxd := HD.out.later hB
          have xd0 := oxd.at 0 _ rfl
          have xd1 := oxd.at 1 _ rfl
          have xd2 := oxd.at 2 _ rfl
          have xd3 := oxd.at 3 _ rfl
          have xd4 := oxd.at 4 _ rfl
          have xd5 := oxd.at 5 _ rfl
          have xd6 := oxd.at 6 _ rfl
          have xd7 := oxd.at 7 _ rfl
          have xd8 := oxd.at 8 _ rfl
          have xd9 := oxd.at 9 _ rfl
          have xd10 := oxd.at 10 _ rfl
          have xd11 := oxd.at 11 _ rfl
          clear oxd
          have oxz := HX.out.later hB
          have xz0 := oxz.at 0 _ rfl
          have xz1 := oxz.at 1 _ rfl
          have xz2 := oxz.at 2 _ rfl
          have xz3 := oxz.at 3 _ rfl
          have xz4 := oxz.at 4 _ rfl
          have xz5 := oxz.at 5 _ rfl
          have xz6 := oxz.at 6 _ rfl
          have xz7 := oxz.at 7 _ rfl
          have xz8 := oxz.at 8 _ rfl
          have xz9 := oxz.at 9 _ rfl
          have xz10 := oxz.at 10 _ rfl
          have xz11 := oxz.at 11 _ rfl
          clear oxz
          have zx0 : w.cell? ⟨blk, off + k * 12, none⟩ = some (.int .i64 z.m0) := xz0
          clear xz0
          go_simp
          exact hK.out (ups (ups s 50 (.pointer (some ⟨blk, off + k * 12, none⟩))) 51 ((.agg #[.int .i64 z.m0, .int .i64 z.m1, .int .i64 z.m2, .int .i64 z.m3, .int .i64 z.m4, .int .i64 z.m5, .int .i64 z.m6, .int .i64 z.m7, .int .i64 z.m8, .int .i64 z.tx, .int .i64 z.ty, .int .i64 z.tz]))) b _ ⟨(fun _ => hB), (p1_ hF.out), (p2_ hF.out), (p3_ hF.out), (fun _ => rfl), (fun _ => rfl), (p6_ hF.out), (p7_ hF.out), (p8_ hF.out), (p9_ hF.out), (p10_ hF.out), (p11_ hF.out), (p12_ hF.out), (p13_ hF.out), (fun h => absurd ((p14_ hF.out) h 4 (by decide)) (by simp [hd])), (fun h => absurd ((p14_ hF.out) h 4 (by decide)) (by simp [hd]))⟩
        refine StepsF.cons (o := _) rfl (ws := []) (by kernel_rfl) (by decide) (fun d s b w hF hd hw K hK => ?_) ?_
        · have hk : d 11 = false := by cases e : d 11 with | false => rfl | true => exact absurd ((p14_ hF.out) e 5 (by decide)) (by simp [hd])
          have hB : Below wr.heap.size wr w := (p0_ hF.out) hk
          dsimp only
          go_simp
          exact hK.out (ups s 52 (.pointer (some ⟨D, 9, none⟩))) b _ ⟨(fun _ => hB), (p1_ hF.out), (p2_ hF.out), (p3_ hF.out), (p4_ hF.out), (p5_ hF.out), (fun _ => rfl), (p7_ hF.out), (p8_ hF.out), (p9_ hF.out), (p10_ hF.out), (p11_ hF.out), (p12_ hF.out), (p13_ hF.out), (fun h => absurd ((p14_ hF.out) h 5 (by decide)) (by simp [hd])), (fun h => absurd ((p14_ hF.out) h 5 (by decide)) (by simp [hd]))⟩
        refine StepsF.cons (o := _) rfl (ws := [5]) (by kernel_rfl) (by decide) (fun d s b w hF hd hw K hK => ?_) ?_
        · have hk : d 11 = false := by cases e : d 11 with | false => rfl | true => exact absurd ((p14_ hF.out) e 6 (by decide)) (by simp [hd])
          have hB : Below wr.heap.size wr w := (p0_ hF.out) hk
          have e5 : s 52 = .pointer (some ⟨D, 9, none⟩) := (p6_ hF.out) (hw 5 (by decide))
          dsimp only
          have oxd := HD.out.later hB
          have xd0 := oxd.at 0 _ rfl
          have xd1 := oxd.at 1 _ rfl
          have xd2 := oxd.at 2 _ rfl
          have xd3 := oxd.at 3 _ rfl
          have xd4 := oxd.at 4 _ rfl
          have xd5 := oxd.at 5 _ rfl
          have xd6 := oxd.at 6 _ rfl
          have xd7 := oxd.at 7 _ rfl
          have xd8 := oxd.at 8 _ rfl
          have xd9 := oxd.at 9 _ rfl
          have xd10 := oxd.at 10 _ rfl
          have xd11 := oxd.at 11 _ rfl
          clear oxd
          have oxz := HX.out.later hB
          have xz0 := oxz.at 0 _ rfl
          have xz1 := oxz.at 1 _ rfl
          have xz2 := oxz.at 2 _ rfl
          have xz3 := oxz.at 3 _ rfl
          have xz4 := oxz.at 4 _ rfl
          have xz5 := oxz.at 5 _ rfl
          have xz6 := oxz.at 6 _ rfl
          have xz7 := oxz.at 7 _ rfl
          have xz8 := oxz.at 8 _ rfl
          have xz9 := oxz.at 9 _ rfl
          have xz10 := oxz.at 10 _ rfl
          have xz11 := oxz.at 11 _ rfl
          clear oxz
          go_simp
          exact hK.out (ups (ups s 52 (.pointer (some ⟨D, 9, none⟩))) 53 ((.agg #[.int .i64 G.tx, .int .i64 G.ty, .int .i64 G.tz]))) b _ ⟨(fun _ => hB), (p1_ hF.out), (p2_ hF.out), (p3_ hF.out), (p4_ hF.out), (p5_ hF.out), (fun _ => rfl), (fun _ => rfl), (p8_ hF.out), (p9_ hF.out), (p10_ hF.out), (p11_ hF.out), (p12_ hF.out), (p13_ hF.out), (fun h => absurd ((p14_ hF.out) h 6 (by decide)) (by simp [hd])), (fun h => absurd ((p14_ hF.out) h 6 (by decide)) (by simp [hd]))⟩
        refine StepsF.cons (o := _) rfl (ws := [4, 6]) (by kernel_rfl) (by decide) (fun d s b w hF hd hw K hK => ?_) ?_
        · have hk : d 11 = false := by cases e : d 11 with | false => rfl | true => exact absurd ((p14_ hF.out) e 7 (by decide)) (by simp [hd])
          have hB : Below wr.heap.size wr w := (p0_ hF.out) hk
          have e4 : s 51 = (.agg #[.int .i64 z.m0, .int .i64 z.m1, .int .i64 z.m2, .int .i64 z.m3, .int .i64 z.m4, .int .i64 z.m5, .int .i64 z.m6, .int .i64 z.m7, .int .i64 z.m8, .int .i64 z.tx, .int .i64 z.ty, .int .i64 z.tz]) := (p5_ hF.out) (hw 4 (by decide))
          have e6 : s 53 = (.agg #[.int .i64 G.tx, .int .i64 G.ty, .int .i64 G.tz]) := (p7_ hF.out) (hw 6 (by decide))
          dsimp only
          go_simp
          go_at_call 92
          refine (AP.out _ _ _ hG.2.2.2.2.2.2.2.2.2.1 hG.2.2.2.2.2.2.2.2.2.2.1 hG.2.2.2.2.2.2.2.2.2.2.2 _).mono ?_
          rintro e w1 ⟨rfl, hb⟩
          exact hK.out (ups (ups (ups s 51 ((.agg #[.int .i64 z.m0, .int .i64 z.m1, .int .i64 z.m2, .int .i64 z.m3, .int .i64 z.m4, .int .i64 z.m5, .int .i64 z.m6, .int .i64 z.m7, .int .i64 z.m8, .int .i64 z.tx, .int .i64 z.ty, .int .i64 z.tz]))) 53 ((.agg #[.int .i64 G.tx, .int .i64 G.ty, .int .i64 G.tz]))) 54 ((.agg #[.int .i64 (A0 z G.tx G.ty G.tz), .int .i64 (A1 z G.tx G.ty G.tz), .int .i64 (A2 z G.tx G.ty G.tz)]))) b _ ⟨(fun _ => (Below.go hB hb)), (p1_ hF.out), (p2_ hF.out), (p3_ hF.out), (p4_ hF.out), (fun _ => rfl), (p6_ hF.out), (fun _ => rfl), (fun _ => rfl), (p9_ hF.out), (fun h0 h1 => ((p10_ hF.out) h0 h1).later hb), (fun h0 => row_later ((p11_ hF.out) h0) hb), (fun h0 h1 => row_later ((p12_ hF.out) h0 h1) hb), (p13_ hF.out), (fun h => absurd ((p14_ hF.out) h 7 (by decide)) (by simp [hd])), (fun h => absurd ((p14_ hF.out) h 7 (by decide)) (by simp [hd]))⟩
        refine StepsF.cons (o := _) rfl (ws := [7]) (by kernel_rfl) (by decide) (fun d s b w hF hd hw K hK => ?_) ?_
        · have hk : d 11 = false := by cases e : d 11 with | false => rfl | true => exact absurd ((p14_ hF.out) e 8 (by decide)) (by simp [hd])
          have hB : Below wr.heap.size wr w := (p0_ hF.out) hk
          have e7 : s 54 = (.agg #[.int .i64 (A0 z G.tx G.ty G.tz), .int .i64 (A1 z G.tx G.ty G.tz), .int .i64 (A2 z G.tx G.ty G.tz)]) := (p8_ hF.out) (hw 7 (by decide))
          dsimp only
          go_simp
          exact hK.out (ups (ups s 54 ((.agg #[.int .i64 (A0 z G.tx G.ty G.tz), .int .i64 (A1 z G.tx G.ty G.tz), .int .i64 (A2 z G.tx G.ty G.tz)]))) 55 (.slice (some ⟨w.heap.size, 0, none⟩) 1 1)) (ups b 8 w.heap.size) _ ⟨(fun _ => (hB.alloc hB.size _)), (p1_ hF.out), (p2_ hF.out), (p3_ hF.out), (p4_ hF.out), (p5_ hF.out), (p6_ hF.out), (p7_ hF.out), (fun _ => rfl), (fun _ => ⟨rfl, hB.size⟩), (fun _ _ => Own.newAt rfl), (fun h0 => row_later ((p11_ hF.out) h0) (Below.al (Below.refl _ _))), (fun h0 h1 => row_later ((p12_ hF.out) h0 h1) (Below.al (Below.refl _ _))), (p13_ hF.out), (fun h => absurd ((p14_ hF.out) h 8 (by decide)) (by simp [hd])), (fun h => absurd ((p14_ hF.out) h 8 (by decide)) (by simp [hd]))⟩
        refine StepsF.cons (o := _) rfl (ws := [0, 8, 7]) (by kernel_rfl) (by decide) (fun d s b w hF hd hw K hK => ?_) ?_
        · have hk : d 11 = false := by cases e : d 11 with | false => rfl | true => exact absurd ((p14_ hF.out) e 9 (by decide)) (by simp [hd])
          have hB : Below wr.heap.size wr w := (p0_ hF.out) hk
          have e0 : s 47 = u3_ := (p1_ hF.out) (hw 0 (by decide))
          have e7 : s 54 = (.agg #[.int .i64 (A0 z G.tx G.ty G.tz), .int .i64 (A1 z G.tx G.ty G.tz), .int .i64 (A2 z G.tx G.ty G.tz)]) := (p8_ hF.out) (hw 7 (by decide))
          have e8 : s 55 = .slice (some ⟨(b 8), 0, none⟩) 1 1 := ((p9_ hF.out) (hw 8 (by decide))).1
          have le8 : wr.heap.size ≤ b 8 := ((p9_ hF.out) (hw 8 (by decide))).2
          have hi := HI.out
          have hz0 := HZ0.out
          have hz1 := HZ1.out
          have hz2 := HZ2.out
          have go := (p11_ hF.out) hd; have nb := (p10_ hF.out) (hw 8 (by decide)) hd
          refine step_append_to rfl (.tmp 47) (.tmp 55) 77 rfl 36 i0 (.agg #[.int .i64 0, .int .i64 0, .int .i64 0]) 3 24 Try.underlying77 hi hz0 hz1 hz2 rfl (by decide) wr.heap.size u3_ 3 [.int .i64 (T0 z G.m0 G.m3 G.m6), .int .i64 (T1 z G.m0 G.m3 G.m6), .int .i64 (T2 z G.m0 G.m3 G.m6), .int .i64 (T0 z G.m1 G.m4 G.m7), .int .i64 (T1 z G.m1 G.m4 G.m7), .int .i64 (T2 z G.m1 G.m4 G.m7), .int .i64 (T0 z G.m2 G.m5 G.m8), .int .i64 (T1 z G.m2 G.m5 G.m8), .int .i64 (T2 z G.m2 G.m5 G.m8)] ?a1 go ⟨b 8, 0, none⟩ 1 1 [.int .i64 (A0 z G.tx G.ty G.tz), .int .i64 (A1 z G.tx G.ty G.tz), .int .i64 (A2 z G.tx G.ty G.tz)] ?a2 rfl nb.news ?c2 ?c3 ?c4 hB.size ?_
          case a1 => exact e0
          case a2 => exact e8
          case c2 => simp [Value.oneCell']
          case c3 => unfold maxLen; omega
          case c4 => omega
          intro v' w' hown hg
          exact hK.out (ups s 56 (v')) b _ ⟨(fun _ => (Below.gro hB hg go (Nat.le_refl _))), (p1_ hF.out), (p2_ hF.out), (p3_ hF.out), (p4_ hF.out), (p5_ hF.out), (p6_ hF.out), (p7_ hF.out), (p8_ hF.out), (p9_ hF.out), (fun _ h => nomatch h), (fun h => nomatch h), (fun _ _ => hown), (p13_ hF.out), (fun h => absurd ((p14_ hF.out) h 9 (by decide)) (by simp [hd])), (fun h => absurd ((p14_ hF.out) h 9 (by decide)) (by simp [hd]))⟩
        refine StepsF.cons (o := _) rfl (ws := [9, 9]) (by kernel_rfl) (by decide) (fun d s b w hF hd hw K hK => ?_) ?_
        · have hk : d 11 = false := by cases e : d 11 with | false => rfl | true => exact absurd ((p14_ hF.out) e 10 (by decide)) (by simp [hd])
          have hB : Below wr.heap.size wr w := (p0_ hF.out) hk
          dsimp only
          go_simp
          go_at_call 54
          refine (AX.out _ _ ((p12_ hF.out) (hw 9 (by decide)) hk)).mono ?_
          rintro e w1 ⟨rfl, hb⟩
          exact hK.out (ups s 57 ((.agg #[.int .i64 (compF G z).m0, .int .i64 (compF G z).m1, .int .i64 (compF G z).m2, .int .i64 (compF G z).m3, .int .i64 (compF G z).m4, .int .i64 (compF G z).m5, .int .i64 (compF G z).m6, .int .i64 (compF G z).m7, .int .i64 (compF G z).m8, .int .i64 (compF G z).tx, .int .i64 (compF G z).ty, .int .i64 (compF G z).tz]))) b _ ⟨(fun _ => (Below.go hB hb)), (p1_ hF.out), (p2_ hF.out), (p3_ hF.out), (p4_ hF.out), (p5_ hF.out), (p6_ hF.out), (p7_ hF.out), (p8_ hF.out), (p9_ hF.out), (fun h0 h1 => ((p10_ hF.out) h0 h1).later hb), (fun h0 => row_later ((p11_ hF.out) h0) hb), (fun h0 h1 => row_later ((p12_ hF.out) h0 h1) hb), (fun _ => rfl), (fun h => absurd ((p14_ hF.out) h 10 (by decide)) (by simp [hd])), (fun h => absurd ((p14_ hF.out) h 10 (by decide)) (by simp [hd]))⟩
        refine StepsF.cons (o := _) rfl (ws := [10, 10, 0, 1, 2, 3, 4, 5, 6, 7, 8, 9, 10]) (by kernel_rfl) (by decide) (fun d s b w hF hd hw K hK => ?_) ?_
        · have hB : Below wr.heap.size wr w := (p0_ hF.out) hd
          have e0 : s 47 = u3_ := (p1_ hF.out) (hw 0 (by decide))
          have e1 : s 48 = .slice (some ⟨blk, off, none⟩) n cap := (p2_ hF.out) (hw 1 (by decide))
          have e2 : s 49 = .int .i64 k := (p3_ hF.out) (hw 2 (by decide))
          have e3 : s 50 = .pointer (some ⟨blk, off + k * 12, none⟩) := (p4_ hF.out) (hw 3 (by decide))
          have e4 : s 51 = (.agg #[.int .i64 z.m0, .int .i64 z.m1, .int .i64 z.m2, .int .i64 z.m3, .int .i64 z.m4, .int .i64 z.m5, .int .i64 z.m6, .int .i64 z.m7, .int .i64 z.m8, .int .i64 z.tx, .int .i64 z.ty, .int .i64 z.tz]) := (p5_ hF.out) (hw 4 (by decide))
          have e5 : s 52 = .pointer (some ⟨D, 9, none⟩) := (p6_ hF.out) (hw 5 (by decide))
          have e6 : s 53 = (.agg #[.int .i64 G.tx, .int .i64 G.ty, .int .i64 G.tz]) := (p7_ hF.out) (hw 6 (by decide))
          have e7 : s 54 = (.agg #[.int .i64 (A0 z G.tx G.ty G.tz), .int .i64 (A1 z G.tx G.ty G.tz), .int .i64 (A2 z G.tx G.ty G.tz)]) := (p8_ hF.out) (hw 7 (by decide))
          have e8 : s 55 = .slice (some ⟨(b 8), 0, none⟩) 1 1 := ((p9_ hF.out) (hw 8 (by decide))).1
          have le8 : wr.heap.size ≤ b 8 := ((p9_ hF.out) (hw 8 (by decide))).2
          have e10 : s 57 = (.agg #[.int .i64 (compF G z).m0, .int .i64 (compF G z).m1, .int .i64 (compF G z).m2, .int .i64 (compF G z).m3, .int .i64 (compF G z).m4, .int .i64 (compF G z).m5, .int .i64 (compF G z).m6, .int .i64 (compF G z).m7, .int .i64 (compF G z).m8, .int .i64 (compF G z).tx, .int .i64 (compF G z).ty, .int .i64 (compF G z).tz]) := (p13_ hF.out) (hw 10 (by decide))
          dsimp only
          have oX := HD.out.later hB
          have fr0 := oX.ok 0 (by simp)
          have fr1 := oX.ok 1 (by simp)
          have fr2 := oX.ok 2 (by simp)
          have fr3 := oX.ok 3 (by simp)
          have fr4 := oX.ok 4 (by simp)
          have fr5 := oX.ok 5 (by simp)
          have fr6 := oX.ok 6 (by simp)
          have fr7 := oX.ok 7 (by simp)
          have fr8 := oX.ok 8 (by simp)
          have fr9 := oX.ok 9 (by simp)
          have fr10 := oX.ok 10 (by simp)
          have fr11 := oX.ok 11 (by simp)
          have ce0 := oX.at 0 _ rfl
          have ce1 := oX.at 1 _ rfl
          have ce2 := oX.at 2 _ rfl
          have ce3 := oX.at 3 _ rfl
          have ce4 := oX.at 4 _ rfl
          have ce5 := oX.at 5 _ rfl
          have ce6 := oX.at 6 _ rfl
          have ce7 := oX.at 7 _ rfl
          have ce8 := oX.at 8 _ rfl
          have ce9 := oX.at 9 _ rfl
          have ce10 := oX.at 10 _ rfl
          have ce11 := oX.at 11 _ rfl
          clear oX
          go_simp
          exact hK.out (ups (ups (ups (ups (ups (ups (ups (ups (ups (ups s 47 (u3_)) 48 (.slice (some ⟨blk, off, none⟩) n cap)) 49 (.int .i64 k)) 50 (.pointer (some ⟨blk, off + k * 12, none⟩))) 51 ((.agg #[.int .i64 z.m0, .int .i64 z.m1, .int .i64 z.m2, .int .i64 z.m3, .int .i64 z.m4, .int .i64 z.m5, .int .i64 z.m6, .int .i64 z.m7, .int .i64 z.m8, .int .i64 z.tx, .int .i64 z.ty, .int .i64 z.tz]))) 52 (.pointer (some ⟨D, 9, none⟩))) 53 ((.agg #[.int .i64 G.tx, .int .i64 G.ty, .int .i64 G.tz]))) 54 ((.agg #[.int .i64 (A0 z G.tx G.ty G.tz), .int .i64 (A1 z G.tx G.ty G.tz), .int .i64 (A2 z G.tx G.ty G.tz)]))) 55 (.slice (some ⟨(b 8), 0, none⟩) 1 1)) 57 ((.agg #[.int .i64 (compF G z).m0, .int .i64 (compF G z).m1, .int .i64 (compF G z).m2, .int .i64 (compF G z).m3, .int .i64 (compF G z).m4, .int .i64 (compF G z).m5, .int .i64 (compF G z).m6, .int .i64 (compF G z).m7, .int .i64 (compF G z).m8, .int .i64 (compF G z).tx, .int .i64 (compF G z).ty, .int .i64 (compF G z).tz]))) b _ ⟨(fun h => nomatch h), (fun _ => rfl), (fun _ => rfl), (fun _ => rfl), (fun _ => rfl), (fun _ => rfl), (fun _ => rfl), (fun _ => rfl), (fun _ => rfl), (fun _ => ⟨rfl, le8⟩), (fun _ h => absurd (hw 9 (by simp)) (by have h2 : d 9 = false := h; simp [h2])), (fun h => absurd (hw 9 (by simp)) (by have h2 : d 9 = false := h; simp [h2])), (fun _ h => nomatch h), (fun _ => rfl), (fun _ j hj => by have hj2 := hw j (by simp; omega); simp [upd, hj2]), (fun _ => ⟨w, hB, rfl⟩)⟩
        exact StepsF.nil
      intro d s b w4 hF hall
      replace hF := Lib.hid hF
      obtain ⟨w4, hB, rfl⟩ := (q15_ hF.out) (hall 11 (by decide))
      try dsimp only
      have e0 : s 47 = u3_ := (p1_ hF.out) (hall 0 (by decide))
      have e1 : s 48 = .slice (some ⟨blk, off, none⟩) n cap := (p2_ hF.out) (hall 1 (by decide))
      have e2 : s 49 = .int .i64 k := (p3_ hF.out) (hall 2 (by decide))
      have e3 : s 50 = .pointer (some ⟨blk, off + k * 12, none⟩) := (p4_ hF.out) (hall 3 (by decide))
      have e4 : s 51 = (.agg #[.int .i64 z.m0, .int .i64 z.m1, .int .i64 z.m2, .int .i64 z.m3, .int .i64 z.m4, .int .i64 z.m5, .int .i64 z.m6, .int .i64 z.m7, .int .i64 z.m8, .int .i64 z.tx, .int .i64 z.ty, .int .i64 z.tz]) := (p5_ hF.out) (hall 4 (by decide))
      have e5 : s 52 = .pointer (some ⟨D, 9, none⟩) := (p6_ hF.out) (hall 5 (by decide))
      have e6 : s 53 = (.agg #[.int .i64 G.tx, .int .i64 G.ty, .int .i64 G.tz]) := (p7_ hF.out) (hall 6 (by decide))
      have e7 : s 54 = (.agg #[.int .i64 (A0 z G.tx G.ty G.tz), .int .i64 (A1 z G.tx G.ty G.tz), .int .i64 (A2 z G.tx G.ty G.tz)]) := (p8_ hF.out) (hall 7 (by decide))
      have e8 : s 55 = .slice (some ⟨(b 8), 0, none⟩) 1 1 := ((p9_ hF.out) (hall 8 (by decide))).1
      have le8 : wr.heap.size ≤ b 8 := ((p9_ hF.out) (hall 8 (by decide))).2
      have e10 : s 57 = (.agg #[.int .i64 (compF G z).m0, .int .i64 (compF G z).m1, .int .i64 (compF G z).m2, .int .i64 (compF G z).m3, .int .i64 (compF G z).m4, .int .i64 (compF G z).m5, .int .i64 (compF G z).m6, .int .i64 (compF G z).m7, .int .i64 (compF G z).m8, .int .i64 (compF G z).tx, .int .i64 (compF G z).ty, .int .i64 (compF G z).tz]) := (p13_ hF.out) (hall 10 (by decide))
      rw [e0, e1, e2, e3, e4, e5, e6, e7, e8, e10]
      clear hall hF e0 e1 e2 e3 e4 e5 e6 e7 e8 e10
      obtain ⟨nv, hz⟩ : ∃ x, x = b 8 := ⟨_, rfl⟩
      rw [← hz] at le8 ⊢
      clear hz
      obtain ⟨u4_, hz⟩ : ∃ x, x = s 56 := ⟨_, rfl⟩
      rw [← hz]
      clear hz
      clear d s b
      have HDn : Hid (Own D [.int .i64 (compF G z).m0, .int .i64 (compF G z).m1, .int .i64 (compF G z).m2, .int .i64 (compF G z).m3, .int .i64 (compF G z).m4, .int .i64 (compF G z).m5, .int .i64 (compF G z).m6, .int .i64 (compF G z).m7, .int .i64 (compF G z).m8, .int .i64 (compF G z).tx, .int .i64 (compF G z).ty, .int .i64 (compF G z).tz] (w4.setCells D 0 [.int .i64 (compF G z).m0, .int .i64 (compF G z).m1, .int .i64 (compF G z).m2, .int .i64 (compF G z).m3, .int .i64 (compF G z).m4, .int .i64 (compF G z).m5, .int .i64 (compF G z).m6, .int .i64 (compF G z).m7, .int .i64 (compF G z).m8, .int .i64 (compF G z).tx, .int .i64 (compF G z).ty, .int .i64 (compF G z).tz])) := Lib.hid (Own.store (vs := [.int .i64 (compF G z).m0, .int .i64 (compF G z).m1, .int .i64 (compF G z).m2, .int .i64 (compF G z).m3, .int .i64 (compF G z).m4, .int .i64 (compF G z).m5, .int .i64 (compF G z).m6, .int .i64 (compF G z).m7, .int .i64 (compF G z).m8, .int .i64 (compF G z).tx, .int .i64 (compF G z).ty, .int .i64 (compF G z).tz]) (HD.out.later hB) rfl)
      have HRn : Hid (Own R [.int .i64 0, .int .i64 0, .int .i64 0, .int .i64 0, .int .i64 0, .int .i64 0, .int .i64 0, .int .i64 0, .int .i64 0, .int .i64 0, .int .i64 0, .int .i64 0] (w4.setCells D 0 [.int .i64 (compF G z).m0, .int .i64 (compF G z).m1, .int .i64 (compF G z).m2, .int .i64 (compF G z).m3, .int .i64 (compF G z).m4, .int .i64 (compF G z).m5, .int .i64 (compF G z).m6, .int .i64 (compF G z).m7, .int .i64 (compF G z).m8, .int .i64 (compF G z).tx, .int .i64 (compF G z).ty, .int .i64 (compF G z).tz])) := Lib.hid (Own.far (o := 0) (vs := [.int .i64 (compF G z).m0, .int .i64 (compF G z).m1, .int .i64 (compF G z).m2, .int .i64 (compF G z).m3, .int .i64 (compF G z).m4, .int .i64 (compF G z).m5, .int .i64 (compF G z).m6, .int .i64 (compF G z).m7, .int .i64 (compF G z).m8, .int .i64 (compF G z).tx, .int .i64 (compF G z).ty, .int .i64 (compF G z).tz]) (HR.out.later hB) nRD)
      have w5b : Below w.heap.size w (w4.setCells D 0 [.int .i64 (compF G z).m0, .int .i64 (compF G z).m1, .int .i64 (compF G z).m2, .int .i64 (compF G z).m3, .int .i64 (compF G z).m4, .int .i64 (compF G z).m5, .int .i64 (compF G z).m6, .int .i64 (compF G z).m7, .int .i64 (compF G z).m8, .int .i64 (compF G z).tx, .int .i64 (compF G z).ty, .int .i64 (compF G z).tz]) := Below.setCells (Below.go HB.out hB) Dw [.int .i64 (compF G z).m0, .int .i64 (compF G z).m1, .int .i64 (compF G z).m2, .int .i64 (compF G z).m3, .int .i64 (compF G z).m4, .int .i64 (compF G z).m5, .int .i64 (compF G z).m6, .int .i64 (compF G z).m7, .int .i64 (compF G z).m8, .int .i64 (compF G z).tx, .int .i64 (compF G z).ty, .int .i64 (compF G z).tz] 0
      generalize (w4.setCells D 0 [.int .i64 (compF G z).m0, .int .i64 (compF G z).m1, .int .i64 (compF G z).m2, .int .i64 (compF G z).m3, .int .i64 (compF G z).m4, .int .i64 (compF G z).m5, .int .i64 (compF G z).m6, .int .i64 (compF G z).m7, .int .i64 (compF G z).m8, .int .i64 (compF G z).tx, .int .i64 (compF G z).ty, .int .i64 (compF G z).tz]) = w5 at *
      clear HD HR hB
      have HD := HDn
      clear HDn
      have HR := HRn
      clear HRn
      have W5B := Lib.hid w5b
      clear w5b hs3 ow9 AX AP HX HB
      go_wp2_with (fail)
      go_roundw
      case rel => (first | exact ⟨k + 1, compF G z, by omega, by omega, by go_num, nx, Lib.hid (inA_comp G z), W5B, HD, HR⟩ | ((repeat apply Exists.intro); exact ⟨⟨k + 1, compF G z, by omega, by omega, by go_num, nx, Lib.hid (inA_comp G z), W5B, HD, HR⟩, rfl⟩))
      case measure => simp [intOf]; omega
    · obtain rfl : k = n := by omega
      have he := hs.out
      rw [List.drop_eq_nil_of_le (by rw [hlen.out]; exact Nat.le_refl _)] at he
      obtain rfl : G = RR := he
      clear hs
      have hB2 := HB.out
      have oD := HD.out
      have D0 := oD.at 0 _ rfl
      have D1 := oD.at 1 _ rfl
      have D2 := oD.at 2 _ rfl
      have D3 := oD.at 3 _ rfl
      have D4 := oD.at 4 _ rfl
      have D5 := oD.at 5 _ rfl
      have D6 := oD.at 6 _ rfl
      have D7 := oD.at 7 _ rfl
      have D8 := oD.at 8 _ rfl
      have D9 := oD.at 9 _ rfl
      have D10 := oD.at 10 _ rfl
      have D11 := oD.at 11 _ rfl
      have Dl := oD.lt
      clear oD
      have oR := HR.out
      have R0 := oR.at 0 _ rfl
      have Rf0 := oR.ok 0 (by simp)
      have R1 := oR.at 1 _ rfl
      have Rf1 := oR.ok 1 (by simp)
      have R2 := oR.at 2 _ rfl
      have Rf2 := oR.ok 2 (by simp)
      have R3 := oR.at 3 _ rfl
      have Rf3 := oR.ok 3 (by simp)
      have R4 := oR.at 4 _ rfl
      have Rf4 := oR.ok 4 (by simp)
      have R5 := oR.at 5 _ rfl
      have Rf5 := oR.ok 5 (by simp)
      have R6 := oR.at 6 _ rfl
      have Rf6 := oR.ok 6 (by simp)
      have R7 := oR.at 7 _ rfl
      have Rf7 := oR.ok 7 (by simp)
      have R8 := oR.at 8 _ rfl
      have Rf8 := oR.ok 8 (by simp)
      have R9 := oR.at 9 _ rfl
      have Rf9 := oR.ok 9 (by simp)
      have R10 := oR.at 10 _ rfl
      have Rf10 := oR.ok 10 (by simp)
      have R11 := oR.at 11 _ rfl
      have Rf11 := oR.ok 11 (by simp)
      have Rl := oR.lt
      clear oR
      go_wp2
      exact bodyPost_ret (v := (.agg #[.int .i64 G.m0, .int .i64 G.m1, .int .i64 G.m2, .int .i64 G.m3, .int .i64 G.m4, .int .i64 G.m5, .int .i64 G.m6, .int .i64 G.m7, .int .i64 G.m8, .int .i64 G.tx, .int .i64 G.ty, .int .i64 G.tz])) (by simp [results, Try.results57, go_sem, R0, R1, R2, R3, R4, R5, R6, R7, R8, R9, R10, R11]) rfl ⟨rfl, by repeat (first | (with_reducible assumption) | (with_reducible refine Below.setCell ?_ (by first | assumption | (simp; omega)) _))⟩
theorem RThen_nil (p : Option Addr) (cap : Nat) (w : World) : Calls Try.prog 57 #[.slice p 0 cap] w fun e w' => e = .returned (.agg #[.int .i64 sameA.m0, .int .i64 sameA.m1, .int .i64 sameA.m2, .int .i64 sameA.m3, .int .i64 sameA.m4, .int .i64 sameA.m5, .int .i64 sameA.m6, .int .i64 sameA.m7, .int .i64 sameA.m8, .int .i64 sameA.tx, .int .i64 sameA.ty, .int .i64 sameA.tz]) ∧ Below w.heap.size w w' := by
  have sm := Lib.hid RSame_any
  go_enter Try.func57, Try.ntmps57
  go_upto_region 1 with fail
  obtain ⟨W0, hW⟩ : ∃ W0, W0 = (w.alloc (.cells #[.int .i64 0, .int .i64 0, .int .i64 0, .int .i64 0, .int .i64 0, .int .i64 0, .int .i64 0, .int .i64 0, .int .i64 0, .int .i64 0, .int .i64 0, .int .i64 0] 80)) := ⟨_, rfl⟩
  have hB0 : Below w.heap.size w W0 := hW ▸ (Below.al (Below.refl _ _))
  have HR : Hid (Own w.heap.size [.int .i64 0, .int .i64 0, .int .i64 0, .int .i64 0, .int .i64 0, .int .i64 0, .int .i64 0, .int .i64 0, .int .i64 0, .int .i64 0, .int .i64 0, .int .i64 0] W0) := Lib.hid (hW ▸ (Own.newAt (by simp)))
  rw [← hW]
  clear hW
  obtain ⟨R, eR⟩ : ∃ X, X = w.heap.size := ⟨_, rfl⟩
  rw [← eR] at HR ⊢
  have Rw : w.heap.size ≤ R := by omega
  clear eR
  go_wp2_with (fail)
  go_at_call 48; refine (sm.out _).mono ?_; rintro e w1 ⟨rfl, hb⟩
  replace HR := Lib.hid (HR.out.later hb)
  have hB1 := Below.go hB0 hb
  clear hb hB0 sm
  have oR := HR.out
  have R0 := oR.at 0 _ rfl
  have Rf0 := oR.ok 0 (by simp)
  have R1 := oR.at 1 _ rfl
  have Rf1 := oR.ok 1 (by simp)
  have R2 := oR.at 2 _ rfl
  have Rf2 := oR.ok 2 (by simp)
  have R3 := oR.at 3 _ rfl
  have Rf3 := oR.ok 3 (by simp)
  have R4 := oR.at 4 _ rfl
  have Rf4 := oR.ok 4 (by simp)
  have R5 := oR.at 5 _ rfl
  have Rf5 := oR.ok 5 (by simp)
  have R6 := oR.at 6 _ rfl
  have Rf6 := oR.ok 6 (by simp)
  have R7 := oR.at 7 _ rfl
  have Rf7 := oR.ok 7 (by simp)
  have R8 := oR.at 8 _ rfl
  have Rf8 := oR.ok 8 (by simp)
  have R9 := oR.at 9 _ rfl
  have Rf9 := oR.ok 9 (by simp)
  have R10 := oR.at 10 _ rfl
  have Rf10 := oR.ok 10 (by simp)
  have R11 := oR.at 11 _ rfl
  have Rf11 := oR.ok 11 (by simp)
  have Rl := oR.lt
  clear oR
  go_wp2
  exact bodyPost_ret (v := (.agg #[.int .i64 sameA.m0, .int .i64 sameA.m1, .int .i64 sameA.m2, .int .i64 sameA.m3, .int .i64 sameA.m4, .int .i64 sameA.m5, .int .i64 sameA.m6, .int .i64 sameA.m7, .int .i64 sameA.m8, .int .i64 sameA.tx, .int .i64 sameA.ty, .int .i64 sameA.tz])) (by simp [results, Try.results57, go_sem, sameA, R0, R1, R2, R3, R4, R5, R6, R7, R8, R9, R10, R11]) rfl ⟨rfl, by repeat (first | (with_reducible assumption) | (with_reducible refine Below.setCell ?_ (by first | assumption | (simp; omega)) _))⟩
end Go.Proofs.Ytgggngcgcpmkbaa

/- AQ -/
namespace Go.Proofs.Ytgggngcgcpmkbaa
set_option linter.unusedVariables false
set_option maxRecDepth 2000
set_option linter.unusedSimpArgs false
open Go.RowKit
attribute [local go_sem] setCell_twice setCell_pair
attribute [local go_sem ↓] eqA neqA

theorem Then_two (f g : Aff) (hf : inA f) (hg : inA g) (blk : Nat) (w : World) (h : Own blk (f.cells ++ g.cells) w) : Calls Try.prog 56 #[.slice (some ⟨blk, 0, none⟩) 2 2] w fun e w' => e = .returned (.agg #[.int .i64 (compF (compF sameA f) g).m0, .int .i64 (compF (compF sameA f) g).m1, .int .i64 (compF (compF sameA f) g).m2, .int .i64 (compF (compF sameA f) g).m3, .int .i64 (compF (compF sameA f) g).m4, .int .i64 (compF (compF sameA f) g).m5, .int .i64 (compF (compF sameA f) g).m6, .int .i64 (compF (compF sameA f) g).m7, .int .i64 (compF (compF sameA f) g).m8, .int .i64 (compF (compF sameA f) g).tx, .int .i64 (compF (compF sameA f) g).ty, .int .i64 (compF (compF sameA f) g).tz]) ∧ Below w.heap.size w w' :=
  Then_walk blk 0 2 2 [f, g] _ (by omega) w h.lt ⟨rfl, fun k hk => match k, hk with | 0, _ => hf | 1, _ => hg, fun k hk j v hv => match k, hk with
    | 0, _ => by
      have := h.at (0 + j) v (by
        have hj : j < 12 := (List.getElem?_eq_some_iff.1 hv).1
        rw [← hv, Nat.zero_add]
        exact List.getElem?_append_left (l₁ := f.cells) (l₂ := g.cells) hj)
      rwa [show 0 + 0 * 12 + j = 0 + j by omega]
    | 1, _ => by
      have := h.at (12 + j) v (by
        rw [← hv]
        have := List.getElem?_append_right (l₁ := f.cells) (l₂ := g.cells) (i := 12 + j) (by show 12 ≤ 12 + j; omega)
        refine this.trans ?_
        show g.cells[12 + j - 12]? = _
        rw [Nat.add_sub_cancel_left]; rfl)
      rwa [show 0 + 1 * 12 + j = 12 + j by omega]⟩ rfl

set_option maxHeartbeats 4000000 in
theorem Then_nil (p : Option Addr) (cap : Nat) (w : World) : Calls Try.prog 56 #[.slice p 0 cap] w fun e w' => e = .returned (.agg #[.int .i64 4294967296, .int .i64 0, .int .i64 0, .int .i64 0, .int .i64 4294967296, .int .i64 0, .int .i64 0, .int .i64 0, .int .i64 4294967296, .int .i64 0, .int .i64 0, .int .i64 0]) ∧ Below w.heap.size w w' := by
  have sm := Lib.hid Same_any
  go_enter Try.func56, Try.ntmps56
  go_upto_region 1 with fail
  obtain ⟨W0, hW⟩ : ∃ W0, W0 = (w.alloc (.cells #[.int .i64 0, .int .i64 0, .int .i64 0, .int .i64 0, .int .i64 0, .int .i64 0, .int .i64 0, .int .i64 0, .int .i64 0, .int .i64 0, .int .i64 0, .int .i64 0] 80)) := ⟨_, rfl⟩
  have hB0 : Below w.heap.size w W0 := hW ▸ (Below.al (Below.refl _ _))
  have HR : Hid (Own w.heap.size [.int .i64 0, .int .i64 0, .int .i64 0, .int .i64 0, .int .i64 0, .int .i64 0, .int .i64 0, .int .i64 0, .int .i64 0, .int .i64 0, .int .i64 0, .int .i64 0] W0) := Lib.hid (hW ▸ (Own.newAt (by simp)))
  rw [← hW]
  clear hW
  obtain ⟨R, eR⟩ : ∃ X, X = w.heap.size := ⟨_, rfl⟩
  rw [← eR] at HR ⊢
  have Rw : w.heap.size ≤ R := by omega
  clear eR
  go_upto_region 2 with (go_at_call 47; refine (sm.out _).mono ?_; rintro e w1 ⟨rfl, hb⟩)
  have HR1 := Lib.hid (HR.out.later hb)
  clear HR sm
  obtain ⟨W1, hW⟩ : ∃ W1, W1 = (w1.alloc (.cells #[.int .i64 4294967296, .int .i64 0, .int .i64 0, .int .i64 0, .int .i64 4294967296, .int .i64 0, .int .i64 0, .int .i64 0, .int .i64 4294967296, .int .i64 0, .int .i64 0, .int .i64 0] 80)) := ⟨_, rfl⟩
  have hB1 : Below w1.heap.size w1 W1 := hW ▸ (Below.al (Below.refl _ _))
  have HD : Hid (Own w1.heap.size [.int .i64 4294967296, .int .i64 0, .int .i64 0, .int .i64 0, .int .i64 4294967296, .int .i64 0, .int .i64 0, .int .i64 0, .int .i64 4294967296, .int .i64 0, .int .i64 0, .int .i64 0] W1) := Lib.hid (hW ▸ (Own.newAt (by simp)))
  rw [← hW]
  clear hW
  obtain ⟨D, eD⟩ : ∃ X, X = w1.heap.size := ⟨_, rfl⟩
  rw [← eD] at HD ⊢
  have Dw : w1.heap.size ≤ D := by omega
  clear eD
  have HR := Lib.hid (HR1.out.later hB1)
  have hB2 : Below w.heap.size w W1 := Below.go (Below.go hB0 hb) hB1
  clear HR1 hB1 hb hB0
  go_wp2_with (fail)
  refine wp_loop_rounds 1 ?_
  rw [rounds_succ]
  have oD := HD.out
  have D0 := oD.at 0 _ rfl
  have D1 := oD.at 1 _ rfl
  have D2 := oD.at 2 _ rfl
  have D3 := oD.at 3 _ rfl
  have D4 := oD.at 4 _ rfl
  have D5 := oD.at 5 _ rfl
  have D6 := oD.at 6 _ rfl
  have D7 := oD.at 7 _ rfl
  have D8 := oD.at 8 _ rfl
  have D9 := oD.at 9 _ rfl
  have D10 := oD.at 10 _ rfl
  have D11 := oD.at 11 _ rfl
  have Dl := oD.lt
  clear oD
  have oR := HR.out
  have R0 := oR.at 0 _ rfl
  have Rf0 := oR.ok 0 (by simp)
  have R1 := oR.at 1 _ rfl
  have Rf1 := oR.ok 1 (by simp)
  have R2 := oR.at 2 _ rfl
  have Rf2 := oR.ok 2 (by simp)
  have R3 := oR.at 3 _ rfl
  have Rf3 := oR.ok 3 (by simp)
  have R4 := oR.at 4 _ rfl
  have Rf4 := oR.ok 4 (by simp)
  have R5 := oR.at 5 _ rfl
  have Rf5 := oR.ok 5 (by simp)
  have R6 := oR.at 6 _ rfl
  have Rf6 := oR.ok 6 (by simp)
  have R7 := oR.at 7 _ rfl
  have Rf7 := oR.ok 7 (by simp)
  have R8 := oR.at 8 _ rfl
  have Rf8 := oR.ok 8 (by simp)
  have R9 := oR.at 9 _ rfl
  have Rf9 := oR.ok 9 (by simp)
  have R10 := oR.at 10 _ rfl
  have Rf10 := oR.ok 10 (by simp)
  have R11 := oR.at 11 _ rfl
  have Rf11 := oR.ok 11 (by simp)
  have Rl := oR.lt
  clear oR
  clear HD HR
  go_wp2_with (fail)
  exact bodyPost_ret (v := (.agg #[.int .i64 4294967296, .int .i64 0, .int .i64 0, .int .i64 0, .int .i64 4294967296, .int .i64 0, .int .i64 0, .int .i64 0, .int .i64 4294967296, .int .i64 0, .int .i64 0, .int .i64 0])) (by simp [results, Try.results56, go_sem, R0, R1, R2, R3, R4, R5, R6, R7, R8, R9, R10, R11]) rfl ⟨rfl, by repeat (first | (with_reducible assumption) | (with_reducible refine Below.setCell ?_ (by first | assumption | (simp; omega)) _))⟩

end Go.Proofs.Ytgggngcgcpmkbaa

/- PA -/
namespace Go.Proofs.Ytgggngcgcpmkbaa
set_option linter.unusedVariables false
set_option maxRecDepth 2000
set_option linter.unusedSimpArgs false
open Go.ChangeShapes Go.WideShapes Go.ChangeAt Go.RowKit Go.Joins Go.Deep

theorem nine {l : List Int} (h : l.length = 9) : ∃ a b c d e f g i j, l = [a, b, c, d, e, f, g, i, j] := by
  match l, h with
  | [a, b, c, d, e, f, g, i, j], _ => exact ⟨a, b, c, d, e, f, g, i, j, rfl⟩
/-- the cells of a transform -/
theorem cs_aff {H : Type} {enc : TypeId × Value → H} {w : World} {base : Nat} {spare : Nat → Bool} {held : Bool} {fuel : Nat} {cs : List Value} {x : DataW H × List MemPlace}
    (h : DataW.trod enc Try.prog w base spare held fuel 80 cs = some x) : ∃ a : Aff, cs = a.cells ∧ inA a := by
  obtain ⟨y0, y1, n, _, hl, h0, h1⟩ := trod_struct2 Try.underlying80 h
  have hC : Try.prog.cellsOf 80 = 12 := by kernel_rfl
  rw [hC] at hl
  have c0 : Try.prog.cellsOf 78 = 9 := by kernel_rfl
  have c1 : Try.prog.cellsOf 36 = 3 := by kernel_rfl
  obtain ⟨zs, hz, e0, wz⟩ := trod_arr Try.underlying78 Try.underlying34 (by kernel_rfl) (by kernel_rfl) h0
  obtain ⟨p, q, r, e1, bp, bq, br⟩ := cs_three Try.underlying36 (by kernel_rfl) (by kernel_rfl) Try.underlying34 Try.underlying34 Try.underlying34 h1
  obtain ⟨a, b, c, d, e, f, g, i, j, rfl⟩ := nine hz
  simp only [c0, c1] at e0 e1
  have e2 : cs = cs.take 9 ++ (cs.drop 9).take 3 := by
    rw [List.take_of_length_le (l := cs.drop 9) (by simp; omega), List.take_append_drop]
  refine ⟨⟨a, b, c, d, e, f, g, i, j, p, q, r⟩, ?_, ?_⟩
  · rw [e2]
    rw [List.drop_zero] at e0
    rw [e0, e1]
    rfl
  · have wi := fun z hz => in64_wf (wz z hz)
    exact ⟨wi a (by simp), wi b (by simp), wi c (by simp), wi d (by simp), wi e (by simp), wi f (by simp), wi g (by simp), wi i (by simp), wi j (by simp), bp, bq, br⟩
theorem open_aff {H : Type} {enc : TypeId × Value → H} {w : World} {base : Nat} {spare : Nat → Bool} {held : Bool} {r : Reach} {b0 : Nat} {v : Value} {d : DataW H} {p : List MemPlace}
    (hv : Value.okWide Try.prog w r b0 80 v) (h : DataW.Trod enc Try.prog w base spare held 80 v d p) : ∃ a : Aff, v = .agg #[.int .i64 a.m0, .int .i64 a.m1, .int .i64 a.m2, .int .i64 a.m3, .int .i64 a.m4, .int .i64 a.m5, .int .i64 a.m6, .int .i64 a.m7, .int .i64 a.m8, .int .i64 a.tx, .int .i64 a.ty, .int .i64 a.tz] ∧ inA a := by
  obtain ⟨cs, rfl, hsz⟩ := okWide_struct Try.underlying80 hv
  obtain ⟨fuel, hf⟩ := h
  obtain ⟨a, e, ha⟩ := cs_aff hf
  refine ⟨a, ?_, ha⟩
  simp only [Value.cells] at e
  rw [show cs = cs.toList.toArray from by simp, e]
  rfl
end Go.Proofs.Ytgggngcgcpmkbaa

/- BA -/
namespace Go.Proofs.Ytgggngcgcpmkbaa
set_option linter.unusedVariables false
set_option maxRecDepth 2000
set_option linter.unusedSimpArgs false
open Go.RowKit
attribute [local go_sem] setCell_twice setCell_pair
attribute [local go_sem ↓] eqA neqA

set_option maxHeartbeats 4000000 in
theorem AThen_few (RR : Aff) (blk off n cap : Nat) (hc : n ≤ cap) (hm : cap ≤ 9223372036854775807) (h8 : (n : Int) ≤ 5) (w : World)
    (t1 : Hid (∀ w', Below w.heap.size w w' → Calls Try.prog 56 #[.slice (some ⟨blk, off, none⟩) n cap] w' fun e w'' => e = .returned (.agg #[.int .i64 RR.m0, .int .i64 RR.m1, .int .i64 RR.m2, .int .i64 RR.m3, .int .i64 RR.m4, .int .i64 RR.m5, .int .i64 RR.m6, .int .i64 RR.m7, .int .i64 RR.m8, .int .i64 RR.tx, .int .i64 RR.ty, .int .i64 RR.tz]) ∧ Below w'.heap.size w' w''))
    (t2 : Hid (∀ w', Below w.heap.size w w' → Calls Try.prog 57 #[.slice (some ⟨blk, off, none⟩) n cap] w' fun e w'' => e = .returned (.agg #[.int .i64 RR.m0, .int .i64 RR.m1, .int .i64 RR.m2, .int .i64 RR.m3, .int .i64 RR.m4, .int .i64 RR.m5, .int .i64 RR.m6, .int .i64 RR.m7, .int .i64 RR.m8, .int .i64 RR.tx, .int .i64 RR.ty, .int .i64 RR.tz]) ∧ Below w'.heap.size w' w''))
    (wk : Hid (∀ w, Calls Try.prog 55 #[] w fun e w' => e = .returned (.bool true) ∧ Below w.heap.size w w')) : Calls Try.prog 13 #[.slice (some ⟨blk, off, none⟩) n cap] w fun e w' => e = .returned (.bool true) ∧ Below w.heap.size w w' := by
  go_enter Try.func13, Try.ntmps13
  go_wp2_with (fail)
  go_at_call 56; refine (t1.out _ (Below.refl _ _)).mono ?_; rintro e w1 ⟨rfl, hB1⟩
  go_wp2_with (fail)
  go_at_call 57; refine (t2.out _ hB1).mono ?_; rintro e w2 ⟨rfl, hb⟩
  have hB2 := Below.go hB1 hb
  clear hb hB1
  go_wp2_with (fail)
  go_at_call 55; refine (wk.out _).mono ?_; rintro e w3 ⟨rfl, hb⟩
  go_wp2
  go_ret
  exact ⟨rfl, Below.go hB2 hb⟩

set_option maxHeartbeats 4000000 in
theorem AThen_many (RR : Aff) (blk off n cap : Nat) (hc : n ≤ cap) (hm : cap ≤ 9223372036854775807) (h8 : 5 < (n : Int)) (w : World)
    (t1 : Hid (∀ w', Below w.heap.size w w' → Calls Try.prog 56 #[.slice (some ⟨blk, off, none⟩) 5 cap] w' fun e w'' => e = .returned (.agg #[.int .i64 RR.m0, .int .i64 RR.m1, .int .i64 RR.m2, .int .i64 RR.m3, .int .i64 RR.m4, .int .i64 RR.m5, .int .i64 RR.m6, .int .i64 RR.m7, .int .i64 RR.m8, .int .i64 RR.tx, .int .i64 RR.ty, .int .i64 RR.tz]) ∧ Below w'.heap.size w' w''))
    (t2 : Hid (∀ w', Below w.heap.size w w' → Calls Try.prog 57 #[.slice (some ⟨blk, off, none⟩) 5 cap] w' fun e w'' => e = .returned (.agg #[.int .i64 RR.m0, .int .i64 RR.m1, .int .i64 RR.m2, .int .i64 RR.m3, .int .i64 RR.m4, .int .i64 RR.m5, .int .i64 RR.m6, .int .i64 RR.m7, .int .i64 RR.m8, .int .i64 RR.tx, .int .i64 RR.ty, .int .i64 RR.tz]) ∧ Below w'.heap.size w' w''))
    (wk : Hid (∀ w, Calls Try.prog 55 #[] w fun e w' => e = .returned (.bool true) ∧ Below w.heap.size w w')) : Calls Try.prog 13 #[.slice (some ⟨blk, off, none⟩) n cap] w fun e w' => e = .returned (.bool true) ∧ Below w.heap.size w w' := by
  go_enter Try.func13, Try.ntmps13
  go_wp2_with (fail)
  go_at_call 56; refine (t1.out _ (Below.refl _ _)).mono ?_; rintro e w1 ⟨rfl, hB1⟩
  go_wp2_with (fail)
  go_at_call 57; refine (t2.out _ hB1).mono ?_; rintro e w2 ⟨rfl, hb⟩
  have hB2 := Below.go hB1 hb
  clear hb hB1
  go_wp2_with (fail)
  go_at_call 55; refine (wk.out _).mono ?_; rintro e w3 ⟨rfl, hb⟩
  go_wp2
  go_ret
  exact ⟨rfl, Below.go hB2 hb⟩

set_option maxHeartbeats 4000000 in
theorem AThen_none (RR : Aff) (p : Option Addr) (cap : Nat) (hm : cap ≤ 9223372036854775807) (w : World)
    (t1 : Hid (∀ w', Below w.heap.size w w' → Calls Try.prog 56 #[.slice p 0 cap] w' fun e w'' => e = .returned (.agg #[.int .i64 RR.m0, .int .i64 RR.m1, .int .i64 RR.m2, .int .i64 RR.m3, .int .i64 RR.m4, .int .i64 RR.m5, .int .i64 RR.m6, .int .i64 RR.m7, .int .i64 RR.m8, .int .i64 RR.tx, .int .i64 RR.ty, .int .i64 RR.tz]) ∧ Below w'.heap.size w' w''))
    (t2 : Hid (∀ w', Below w.heap.size w w' → Calls Try.prog 57 #[.slice p 0 cap] w' fun e w'' => e = .returned (.agg #[.int .i64 RR.m0, .int .i64 RR.m1, .int .i64 RR.m2, .int .i64 RR.m3, .int .i64 RR.m4, .int .i64 RR.m5, .int .i64 RR.m6, .int .i64 RR.m7, .int .i64 RR.m8, .int .i64 RR.tx, .int .i64 RR.ty, .int .i64 RR.tz]) ∧ Below w'.heap.size w' w''))
    (wk : Hid (∀ w, Calls Try.prog 55 #[] w fun e w' => e = .returned (.bool true) ∧ Below w.heap.size w w')) : Calls Try.prog 13 #[.slice p 0 cap] w fun e w' => e = .returned (.bool true) ∧ Below w.heap.size w w' := by
  go_enter Try.func13, Try.ntmps13
  go_wp2_with (fail)
  go_at_call 56; refine (t1.out _ (Below.refl _ _)).mono ?_; rintro e w1 ⟨rfl, hB1⟩
  go_wp2_with (fail)
  go_at_call 57; refine (t2.out _ hB1).mono ?_; rintro e w2 ⟨rfl, hb⟩
  have hB2 := Below.go hB1 hb
  clear hb hB1
  go_wp2_with (fail)
  go_at_call 55; refine (wk.out _).mono ?_; rintro e w3 ⟨rfl, hb⟩
  go_wp2
  go_ret
  exact ⟨rfl, Below.go hB2 hb⟩

def isAff (cs : List Value) : Prop := ∃ a : Aff, cs = a.cells ∧ inA a
theorem affs {w : World} {p : Option Addr} {n cap : Nat} {f : Nat → List Value} (sl : Sl w p n cap 12 f isAff) : ∃ zs : List Aff, zs.length = n ∧ ∀ k, k < n → f k = (zs.getD k sameA).cells ∧ inA (zs.getD k sameA) := by
  have ch : ∀ k, ∃ z : Aff, k < n → f k = z.cells ∧ inA z := fun k => by
    by_cases hk : k < n
    · obtain ⟨a, e, h⟩ := sl.q k hk
      exact ⟨a, fun _ => ⟨e, h⟩⟩
    · exact ⟨sameA, fun h => absurd h hk⟩
  refine ⟨(List.range n).map fun k => Classical.choose (ch k), by simp, fun k hk => ?_⟩
  have := Classical.choose_spec (ch k) hk
  rw [List.getD_eq_getElem?_getD, List.getElem?_map, List.getElem?_range hk]
  exact this
theorem fold_from (zs : List Aff) (h : 0 < zs.length) (h0 : inA (zs.getD 0 sameA)) : (zs.drop 1).foldl compF (zs.getD 0 sameA) = zs.foldl compF sameA := by
  cases zs with
  | nil => simp at h
  | cons z r =>
    simp only [List.getD_cons_zero] at h0
    simp only [List.drop_succ_cons, List.drop_zero, List.getD_cons_zero, List.foldl_cons]
    rw [comp_same z h0]
theorem Then_law (p : Option Addr) (n cap : Nat) (f : Nat → List Value) (w : World) (sl : Sl w p n cap 12 f isAff) : Calls Try.prog 13 #[.slice p n cap] w fun e w' => e = .returned (.bool true) ∧ Below w.heap.size w w' := by
  rcases sl.row with rfl | ⟨blk, off, rfl, hb, hr⟩
  · exact AThen_none sameA p cap sl.max w (Lib.hid fun w' _ => Then_nil p cap w') (Lib.hid fun w' _ => RThen_nil p cap w') (Lib.hid works_any)
  · by_cases h0 : n = 0
    · subst h0
      exact AThen_none sameA (some ⟨blk, off, none⟩) cap sl.max w (Lib.hid fun w' _ => Then_nil _ cap w') (Lib.hid fun w' _ => RThen_nil _ cap w') (Lib.hid works_any)
    have thens : ∀ m, 1 ≤ m → m ≤ n → m ≤ 4611686018427387904 → ∃ RR : Aff, (∀ w', Below w.heap.size w w' → Calls Try.prog 56 #[.slice (some ⟨blk, off, none⟩) m cap] w' fun e w'' => e = .returned (.agg #[.int .i64 RR.m0, .int .i64 RR.m1, .int .i64 RR.m2, .int .i64 RR.m3, .int .i64 RR.m4, .int .i64 RR.m5, .int .i64 RR.m6, .int .i64 RR.m7, .int .i64 RR.m8, .int .i64 RR.tx, .int .i64 RR.ty, .int .i64 RR.tz]) ∧ Below w'.heap.size w' w'') ∧ ∀ w', Below w.heap.size w w' → Calls Try.prog 57 #[.slice (some ⟨blk, off, none⟩) m cap] w' fun e w'' => e = .returned (.agg #[.int .i64 RR.m0, .int .i64 RR.m1, .int .i64 RR.m2, .int .i64 RR.m3, .int .i64 RR.m4, .int .i64 RR.m5, .int .i64 RR.m6, .int .i64 RR.m7, .int .i64 RR.m8, .int .i64 RR.tx, .int .i64 RR.ty, .int .i64 RR.tz]) ∧ Below w'.heap.size w' w'' := fun m h1 hm hM => by
      obtain ⟨zs, hn, hq⟩ := affs (sl.take hm)
      have hs : ∀ w', Below w.heap.size w w' → AffSl w' blk off m zs := fun w' h => ⟨hn, fun k hk => (hq k hk).2, fun k hk j v hj => by
        have hx := (hr k (by omega)).later h
        rw [(hq k hk).1] at hx
        exact hx.cell j v hj⟩
      have lt : ∀ w', Below w.heap.size w w' → blk < w'.heap.size := fun w' h => Nat.lt_of_lt_of_le hb h.size
      exact ⟨zs.foldl compF sameA, fun w' h => Then_walk blk off m cap zs _ hM w' (lt w' h) (hs w' h) rfl, fun w' h => RThen_walk blk off m cap zs _ hM h1 w' (lt w' h) (hs w' h) (fold_from zs (by omega) (hq 0 (by omega)).2)⟩
    by_cases h8 : n ≤ 5
    · obtain ⟨RR, a, b⟩ := thens n (by omega) (Nat.le_refl _) (by omega)
      exact AThen_few RR blk off n cap sl.le sl.max (by omega) w (Lib.hid a) (Lib.hid b) (Lib.hid works_any)
    · obtain ⟨RR, a, b⟩ := thens 5 (by omega) (by omega) (by omega)
      exact AThen_many RR blk off n cap sl.le sl.max (by omega) w (Lib.hid a) (Lib.hid b) (Lib.hid works_any)
end Go.Proofs.Ytgggngcgcpmkbaa

/- PBThen -/
namespace Go.Proofs.Ytgggngcgcpmkbaa.affineThen
set_option linter.unusedVariables false
set_option maxRecDepth 2000
open Go.ChangeShapes Go.WideShapes Go.ChangeAt Go.RowKit Go.Joins

theorem own : ownKnob Try.prog.godebug = none := by kernel_rfl
theorem laidOut : laidOutB Try.prog = true := by kernel_rfl

set_option maxRecDepth 100000 in
theorem lifted (os : Os) (started : os.Started) (H : Type) (enc : TypeId × Value → H) :
    ReturnsInHanded {} Try.checked os 13 .any (Rows.affineThenSpec.pre6 enc Try.prog Try.f13 Rows.affineThenRow.domain false) (Rows.affineThenSpec.post enc Try.prog Try.f13 false true false false) := by
  refine returnsInHanded_of_change (C := Try.checked) own started (by kernel_rfl) Try.func13
    (ChangeSpec.witness6 (enc := enc) (C := Try.checked) false ⟨#[], #[.slice none 0 0], []⟩ 8 (by kernel_rfl) (by kernel_rfl) (by kernel_rfl) (by kernel_rfl)) ?_
  intro W base args ds gs before hval0 hW _ _
  have hval : ∀ (j : Nat) t v, Try.f13.params[j]? = some t → args[j]? = some v → Value.okWide Try.prog W .any base t v := hval0
  have hW' := hW
  obtain ⟨p, q, hA0, hV, rfl, _, _⟩ := hW
  have hA : DataW.TrodAll enc Try.prog W 0 (fun _ => true) true Try.f13.params.toList args.toList ds p := hA0
  rw [Try.params13] at hA hval
  obtain ⟨v0, d0, rfl, rfl, g0⟩ := trodAll_one hA
  obtain ⟨rfl, rfl⟩ := trodVars_none hV
  simp only [List.append_nil] at hW'
  clear hA0
  have lt0 : ∀ x ∈ p, x.block < W.heap.size := fun x hx => by simpa using hW'.lt x (by simp [hx])
  have st0 := fun (W' : World) (hn : Below W.heap.size W W') => Below.trod laidOut (by kernel_rfl) (of_decide_eq_true (by kernel_rfl)) g0 hn lt0
  obtain ⟨p0_, n0, c0, f0, rfl, sl0⟩ := open_sl (S := 12) isAff Try.underlying88 (by kernel_rfl) (by decide) (fun fuel cs x hx hl => cs_aff hx) (hval 0 88 v0 rfl rfl) g0 lt0
  clear hval hval0
  refine (Then_law p0_ n0 c0 f0 W sl0).mono fun e W' ⟨he, hg⟩ => ?_
  subst he
  exact ⟨_, rfl, _, _, _, [], _, [], hW', trodAll_mk1 (shut_bool Try.underlying4 _), trodAll_mk1 (st0 _ hg), rfl, hg.frame _, fun h => by cases h⟩

theorem proved : Rows.AffineThenSaid :=
  OpenClaim.holds_of_wide 13 Try.f13 rfl rfl rfl rfl rfl rfl rfl ⟨rfl, rfl, rfl, rfl, rfl⟩ rfl rfl rfl rfl rfl (by kernel_rfl) Try.func13 (by kernel_rfl)
    (of_decide_eq_true (by kernel_rfl)) (by unfold Func.isWrapper; first | (rw [if_pos (by decide +kernel)]; kernel_rfl) | (rw [if_neg (by decide +kernel)]; exact ⟨rfl, rfl⟩))
    (fun os started H enc _ => lifted os started H enc)
end Go.Proofs.Ytgggngcgcpmkbaa.affineThen
