/- texture: the walk of TextureEncodes. -/
import Derived.Test.YtbhdlpndmbhaiaaMUA
import Derived.Test.YtbhdlpndmbhaiaaCT
import Derived.Lib.Hide
import Derived.LoopN
import Derived.LoopTactic
import Derived.Deep.Onto
import Derived.Deep.RegionHeld3
import Derived.Deep.QuietTactic
import Derived.BigQuiet
namespace Go.Proofs.Ytbhdlpndmbhaiaa
set_option linter.unusedVariables false
set_option maxRecDepth 2000
set_option linter.unusedSimpArgs false
open Go.RowKit
set_option maxHeartbeats 8000000 in
theorem Encodes_law (M : Txr) (w : World) (hM : TxAt M w) : Calls Try.prog 3 #[.agg #[.int .i64 M.S, .slice M.q M.n M.c]] w fun e w' => e = .returned (.bool true) ∧ Below w.heap.size w w' := by
  have HM := Lib.hid hM
  clear hM
  go_enter Try.func3, Try.ntmps3
  go_upto_region 1 with fail
  obtain ⟨W0, hW⟩ : ∃ W0, W0 = (w.alloc (.cells #[.int .i64 M.S, .slice M.q M.n M.c] 24)) := ⟨_, rfl⟩
  have hB0 : Below w.heap.size w W0 := hW ▸ (Below.al (Below.refl _ _))
  have HA : Hid (Own w.heap.size [.int .i64 M.S, .slice M.q M.n M.c] W0) := Lib.hid (hW ▸ (Own.newAt (by simp)))
  rw [← hW]
  clear hW
  obtain ⟨A, eA⟩ : ∃ X, X = w.heap.size := ⟨_, rfl⟩
  rw [← eA] at HA ⊢
  have Aw : w.heap.size ≤ A := by omega
  clear eA
  have HM0 := Lib.hid (HM.out.later hB0)
  have oA := HA.out
  have A0 := oA.at 0 _ rfl
  have A1 := oA.at 1 _ rfl
  have Al := oA.lt
  clear oA
  go_wp2_with (fail)
  go_at_call 8
  refine (few_tex M _ HM0.out).mono ?_
  rintro e w1 ⟨rfl, hb⟩
  have HA1 := Lib.hid (HA.out.later hb); have HB1 := Lib.hid (Below.go hB0 hb)
  have HY := Lib.hid (fewT_at HM.out)
  have YN := Lib.hid (fewT_n M)
  clear hb hB0 HM HM0 HA A0 A1 Al
  generalize fewT M = Y at *
  have oA := HA1.out
  have A0 := oA.at 0 _ rfl
  have Af0 := oA.ok 0 (by simp)
  have A1 := oA.at 1 _ rfl
  have Af1 := oA.ok 1 (by simp)
  have Al := oA.lt
  clear oA
  go_upto_region 2 with fail
  clear A0 A1 Af0 Af1 Al
  rw [show ((w1.setCell ⟨A, 0, none⟩ (.int .i64 Y.S)).setCell ⟨A, 1, none⟩ (.slice Y.q Y.n Y.c)) = w1.setCells A 0 [.int .i64 Y.S, .slice Y.q Y.n Y.c] from rfl]
  have HA : Hid (Own A [.int .i64 Y.S, .slice Y.q Y.n Y.c] (w1.setCells A 0 [.int .i64 Y.S, .slice Y.q Y.n Y.c])) := Lib.hid (Own.store HA1.out rfl)
  have HB : Hid (Below w.heap.size w (w1.setCells A 0 [.int .i64 Y.S, .slice Y.q Y.n Y.c])) := Lib.hid (Below.setCells HB1.out Aw _ _)
  clear HA1 HB1
  generalize w1.setCells A 0 [.int .i64 Y.S, .slice Y.q Y.n Y.c] = w2 at *
  have CE := Lib.hid (Encode_any Y); have CR := Lib.hid (REncode_any Y); have CC := Lib.hid (Check_any Y); have CD := Lib.hid (RCheck_any Y)
  generalize chkT Y.S Y.n Y.f = z at *
  generalize encTL z Y.n = n at *
  generalize encT Y.S Y.f = EF at *
  have oA := HA.out
  have A0 := oA.at 0 _ rfl
  have A1 := oA.at 1 _ rfl
  have Al := oA.lt
  clear oA
  go_wp2_with (fail)
  go_at_call 9
  refine (CE.out _ (HY.out.later HB.out)).mono ?_
  rintro e w3 ⟨⟨v1, rfl, q1, c1, rfl, _, _, hb1⟩, hb⟩
  have HA_ := Lib.hid (HA.out.later hb)
  have HB_ := Lib.hid (Below.go HB.out hb)
  have BY1 := Lib.hid hb1
  clear hb1
  clear hb HB HA
  have HA := HA_
  clear HA_
  have HB := HB_
  clear HB_
  clear A0 A1 Al CE
  have oA := HA.out
  have A0 := oA.at 0 _ rfl
  have A1 := oA.at 1 _ rfl
  have Al := oA.lt
  clear oA
  go_wp2_with (fail)
  go_at_call 10
  refine (CR.out _ (HY.out.later HB.out)).mono ?_
  rintro e w4 ⟨⟨v2, rfl, q2, c2, rfl, _, _, hb2⟩, hb⟩
  have HA_ := Lib.hid (HA.out.later hb)
  have BY1_ := Lib.hid (BY1.out.later hb)
  have HB_ := Lib.hid (Below.go HB.out hb)
  have BY2 := Lib.hid hb2
  clear hb2
  clear hb HB HA BY1
  have HA := HA_
  clear HA_
  have BY1 := BY1_
  clear BY1_
  have HB := HB_
  clear HB_
  clear A0 A1 Al CR
  go_wp2_with (fail)
  have hBd : Below w4.heap.size w4 w4.drew := (Below.refl _ _).drew
  have SH : Hid (∀ w', Below w4.heap.size w4 w' → w'.cell? ⟨A, 0, none⟩ = some (.int .i64 Y.S) ∧ w'.cell? ⟨A, 1, none⟩ = some (.slice Y.q Y.n Y.c)) := Lib.hid fun w' hb => ⟨(HA.out.later hb).at 0 _ rfl, (HA.out.later hb).at 1 _ rfl⟩
  go_region_held3 (fun w' => w'.cell? ⟨A, 0, none⟩ = some (.int .i64 Y.S) ∧ w'.cell? ⟨A, 1, none⟩ = some (.slice Y.q Y.n Y.c)) (first | exact SH.out _ (by assumption) | exact SH.out _ (Below.al (by assumption))) (first | (go_at_call 11; (with_reducible refine (CC.out _ (HY.out.later (Below.go HB.out hBd))).mono ?_); rintro e y1 ⟨rfl, h1⟩; have by1 : Below w4.heap.size w4 y1 := Below.go hBd h1; clear h1) | (go_at_call 12; (with_reducible refine (CD.out _ (HY.out.later (Below.go HB.out by1))).mono ?_); rintro e y2 ⟨rfl, h1⟩; have by2 : Below w4.heap.size w4 y2 := Below.go by1 h1; clear h1) | (go_at_call 13; (with_reducible refine (Equal_any _ _ _ _ _ EF _ (BY1.out.later by2) (BY2.out.later by2)).mono ?_); rintro e y3 ⟨rfl, h1⟩; have by3 : Below w4.heap.size w4 y3 := Below.go by2 h1; clear h1) | (go_at_call 14; (with_reducible refine (works_any _).mono ?_); rintro e y4 ⟨rfl, h1⟩; have by4 : Below w4.heap.size w4 y4 := Below.go by3 h1; clear h1))
  clear hBd SH by1 by2 by3
  go_wp2_with (fail)
  go_ret
  exact ⟨rfl, Below.go HB.out by4⟩
end Go.Proofs.Ytbhdlpndmbhaiaa
