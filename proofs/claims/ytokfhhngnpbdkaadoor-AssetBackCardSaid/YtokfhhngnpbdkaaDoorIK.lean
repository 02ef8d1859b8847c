/- asset: the document's Same; what is zero; few. -/
import Derived.Test.YtokfhhngnpbdkaaDoorIJ
import Derived.Lib.Hide
import Derived.LoopN
import Derived.LoopTactic
import Derived.Deep.Onto
import Derived.Deep.RegionHeld3
import Derived.Deep.QuietTactic
import Derived.BigQuiet
import Derived.Great.BuildSlice
import Derived.StillTailTactics
import Derived.Lib.SliceRun
namespace Go.Proofs.YtokfhhngnpbdkaaDoor
set_option linter.unusedVariables false
set_option maxRecDepth 2000
set_option linter.unusedSimpArgs false
open Go.RowKit
attribute [local go_sem ↓] eqlMat eqlLgt
set_option maxHeartbeats 16000000 in
theorem RSame_any (A B : Ast) (w : World) (hA : AstAt A w) (hB : AstAt B w) (hF : FewA A) : Calls Tryd.prog 21 #[(.agg #[.int .i64 A.k, .slice A.M.qv A.M.nv A.M.cv, .slice A.M.qu A.M.nu A.M.cu, .slice A.M.qt A.M.nt A.M.ct, .int .i64 A.X.S, .slice A.X.q A.X.n A.X.c, .int .i64 (A.g 0), .int .i64 (A.g 1), .int .i64 (A.g 2), .int .i64 (A.g 3), .int .i64 (A.g 4), .int .i64 (A.l 0), .int .i64 (A.l 1), .int .i64 (A.l 2), .int .i64 (A.l 3), .int .i64 (A.l 4), .int .i64 (A.l 5), .int .i64 (A.l 6), .int .i64 (A.l 7), .int .i64 (A.l 8), .int .i64 (A.l 9), .int .i64 (A.l 10), .int .i64 (A.l 11), .int .i64 (A.l 12)]), (.agg #[.int .i64 B.k, .slice B.M.qv B.M.nv B.M.cv, .slice B.M.qu B.M.nu B.M.cu, .slice B.M.qt B.M.nt B.M.ct, .int .i64 B.X.S, .slice B.X.q B.X.n B.X.c, .int .i64 (B.g 0), .int .i64 (B.g 1), .int .i64 (B.g 2), .int .i64 (B.g 3), .int .i64 (B.g 4), .int .i64 (B.l 0), .int .i64 (B.l 1), .int .i64 (B.l 2), .int .i64 (B.l 3), .int .i64 (B.l 4), .int .i64 (B.l 5), .int .i64 (B.l 6), .int .i64 (B.l 7), .int .i64 (B.l 8), .int .i64 (B.l 9), .int .i64 (B.l 10), .int .i64 (B.l 11), .int .i64 (B.l 12)])] w fun e w' => e = .returned (.bool (sameA A B)) ∧ Below w.heap.size w w' := by
  have AA := Lib.hid hA; have BB := Lib.hid hB; have FF := Lib.hid hF
  obtain ⟨b, eb⟩ : ∃ b, sameA A B = b := ⟨_, rfl⟩
  rw [eb]
  have EB := Lib.hid eb
  rw [sameA_eq] at EB
  obtain ⟨b0, e0⟩ : ∃ b, (A.k == B.k) = b := ⟨_, rfl⟩
  obtain ⟨b1, e1⟩ : ∃ b, sameM A.M B.M = b := ⟨_, rfl⟩
  obtain ⟨b2, e2⟩ : ∃ b, sameX A.X B.X = b := ⟨_, rfl⟩
  obtain ⟨b6, e6⟩ : ∃ b, matB A.g B.g = b := ⟨_, rfl⟩
  obtain ⟨b7, e7⟩ : ∃ b, lgtB A.l B.l = b := ⟨_, rfl⟩
  rw [e0, e1, e2, e6, e7] at EB
  have E1 := Lib.hid e1; have E2 := Lib.hid e2; have E6 := Lib.hid e6; have E7 := Lib.hid e7
  clear hA hB hF eb e1 e2 e6 e7
  go_enter Tryd.func21, Tryd.ntmps21
  go_upto_region 1 with fail
  try simp only [List.append]
  obtain ⟨W0, hW⟩ : ∃ W0, W0 = ((w.alloc (.cells #[.int .i64 A.k, .slice A.M.qv A.M.nv A.M.cv, .slice A.M.qu A.M.nu A.M.cu, .slice A.M.qt A.M.nt A.M.ct, .int .i64 A.X.S, .slice A.X.q A.X.n A.X.c, .int .i64 (A.g 0), .int .i64 (A.g 1), .int .i64 (A.g 2), .int .i64 (A.g 3), .int .i64 (A.g 4), .int .i64 (A.l 0), .int .i64 (A.l 1), .int .i64 (A.l 2), .int .i64 (A.l 3), .int .i64 (A.l 4), .int .i64 (A.l 5), .int .i64 (A.l 6), .int .i64 (A.l 7), .int .i64 (A.l 8), .int .i64 (A.l 9), .int .i64 (A.l 10), .int .i64 (A.l 11), .int .i64 (A.l 12)] 37)).alloc (.cells #[.int .i64 B.k, .slice B.M.qv B.M.nv B.M.cv, .slice B.M.qu B.M.nu B.M.cu, .slice B.M.qt B.M.nt B.M.ct, .int .i64 B.X.S, .slice B.X.q B.X.n B.X.c, .int .i64 (B.g 0), .int .i64 (B.g 1), .int .i64 (B.g 2), .int .i64 (B.g 3), .int .i64 (B.g 4), .int .i64 (B.l 0), .int .i64 (B.l 1), .int .i64 (B.l 2), .int .i64 (B.l 3), .int .i64 (B.l 4), .int .i64 (B.l 5), .int .i64 (B.l 6), .int .i64 (B.l 7), .int .i64 (B.l 8), .int .i64 (B.l 9), .int .i64 (B.l 10), .int .i64 (B.l 11), .int .i64 (B.l 12)] 37)) := ⟨_, rfl⟩
  have hB0 : Below w.heap.size w W0 := hW ▸ (Below.al (Below.al (Below.refl _ _)))
  have HP : Hid (Own w.heap.size ([.int .i64 A.k, .slice A.M.qv A.M.nv A.M.cv, .slice A.M.qu A.M.nu A.M.cu, .slice A.M.qt A.M.nt A.M.ct, .int .i64 A.X.S, .slice A.X.q A.X.n A.X.c, .int .i64 (A.g 0), .int .i64 (A.g 1), .int .i64 (A.g 2), .int .i64 (A.g 3), .int .i64 (A.g 4), .int .i64 (A.l 0), .int .i64 (A.l 1), .int .i64 (A.l 2), .int .i64 (A.l 3), .int .i64 (A.l 4), .int .i64 (A.l 5), .int .i64 (A.l 6), .int .i64 (A.l 7), .int .i64 (A.l 8), .int .i64 (A.l 9), .int .i64 (A.l 10), .int .i64 (A.l 11), .int .i64 (A.l 12)]) W0) := Lib.hid (hW ▸ (show Own w.heap.size ([.int .i64 A.k, .slice A.M.qv A.M.nv A.M.cv, .slice A.M.qu A.M.nu A.M.cu, .slice A.M.qt A.M.nt A.M.ct, .int .i64 A.X.S, .slice A.X.q A.X.n A.X.c, .int .i64 (A.g 0), .int .i64 (A.g 1), .int .i64 (A.g 2), .int .i64 (A.g 3), .int .i64 (A.g 4), .int .i64 (A.l 0), .int .i64 (A.l 1), .int .i64 (A.l 2), .int .i64 (A.l 3), .int .i64 (A.l 4), .int .i64 (A.l 5), .int .i64 (A.l 6), .int .i64 (A.l 7), .int .i64 (A.l 8), .int .i64 (A.l 9), .int .i64 (A.l 10), .int .i64 (A.l 11), .int .i64 (A.l 12)]) (w.alloc (.cells #[.int .i64 A.k, .slice A.M.qv A.M.nv A.M.cv, .slice A.M.qu A.M.nu A.M.cu, .slice A.M.qt A.M.nt A.M.ct, .int .i64 A.X.S, .slice A.X.q A.X.n A.X.c, .int .i64 (A.g 0), .int .i64 (A.g 1), .int .i64 (A.g 2), .int .i64 (A.g 3), .int .i64 (A.g 4), .int .i64 (A.l 0), .int .i64 (A.l 1), .int .i64 (A.l 2), .int .i64 (A.l 3), .int .i64 (A.l 4), .int .i64 (A.l 5), .int .i64 (A.l 6), .int .i64 (A.l 7), .int .i64 (A.l 8), .int .i64 (A.l 9), .int .i64 (A.l 10), .int .i64 (A.l 11), .int .i64 (A.l 12)] 37)) from Own.newAt (by simp)).alloc)
  have HQ : Hid (Own (w.heap.size + 1) ([.int .i64 B.k, .slice B.M.qv B.M.nv B.M.cv, .slice B.M.qu B.M.nu B.M.cu, .slice B.M.qt B.M.nt B.M.ct, .int .i64 B.X.S, .slice B.X.q B.X.n B.X.c, .int .i64 (B.g 0), .int .i64 (B.g 1), .int .i64 (B.g 2), .int .i64 (B.g 3), .int .i64 (B.g 4), .int .i64 (B.l 0), .int .i64 (B.l 1), .int .i64 (B.l 2), .int .i64 (B.l 3), .int .i64 (B.l 4), .int .i64 (B.l 5), .int .i64 (B.l 6), .int .i64 (B.l 7), .int .i64 (B.l 8), .int .i64 (B.l 9), .int .i64 (B.l 10), .int .i64 (B.l 11), .int .i64 (B.l 12)]) W0) := Lib.hid (hW ▸ (show Own (w.heap.size + 1) ([.int .i64 B.k, .slice B.M.qv B.M.nv B.M.cv, .slice B.M.qu B.M.nu B.M.cu, .slice B.M.qt B.M.nt B.M.ct, .int .i64 B.X.S, .slice B.X.q B.X.n B.X.c, .int .i64 (B.g 0), .int .i64 (B.g 1), .int .i64 (B.g 2), .int .i64 (B.g 3), .int .i64 (B.g 4), .int .i64 (B.l 0), .int .i64 (B.l 1), .int .i64 (B.l 2), .int .i64 (B.l 3), .int .i64 (B.l 4), .int .i64 (B.l 5), .int .i64 (B.l 6), .int .i64 (B.l 7), .int .i64 (B.l 8), .int .i64 (B.l 9), .int .i64 (B.l 10), .int .i64 (B.l 11), .int .i64 (B.l 12)]) ((w.alloc (.cells #[.int .i64 A.k, .slice A.M.qv A.M.nv A.M.cv, .slice A.M.qu A.M.nu A.M.cu, .slice A.M.qt A.M.nt A.M.ct, .int .i64 A.X.S, .slice A.X.q A.X.n A.X.c, .int .i64 (A.g 0), .int .i64 (A.g 1), .int .i64 (A.g 2), .int .i64 (A.g 3), .int .i64 (A.g 4), .int .i64 (A.l 0), .int .i64 (A.l 1), .int .i64 (A.l 2), .int .i64 (A.l 3), .int .i64 (A.l 4), .int .i64 (A.l 5), .int .i64 (A.l 6), .int .i64 (A.l 7), .int .i64 (A.l 8), .int .i64 (A.l 9), .int .i64 (A.l 10), .int .i64 (A.l 11), .int .i64 (A.l 12)] 37)).alloc (.cells #[.int .i64 B.k, .slice B.M.qv B.M.nv B.M.cv, .slice B.M.qu B.M.nu B.M.cu, .slice B.M.qt B.M.nt B.M.ct, .int .i64 B.X.S, .slice B.X.q B.X.n B.X.c, .int .i64 (B.g 0), .int .i64 (B.g 1), .int .i64 (B.g 2), .int .i64 (B.g 3), .int .i64 (B.g 4), .int .i64 (B.l 0), .int .i64 (B.l 1), .int .i64 (B.l 2), .int .i64 (B.l 3), .int .i64 (B.l 4), .int .i64 (B.l 5), .int .i64 (B.l 6), .int .i64 (B.l 7), .int .i64 (B.l 8), .int .i64 (B.l 9), .int .i64 (B.l 10), .int .i64 (B.l 11), .int .i64 (B.l 12)] 37)) from Own.newAt (by simp)))
  rw [← hW]
  clear hW
  obtain ⟨Q, eQ⟩ : ∃ X, X = (w.heap.size + 1) := ⟨_, rfl⟩
  rw [← eQ] at HQ ⊢
  have Qw : w.heap.size ≤ Q := by omega
  obtain ⟨P, eP⟩ : ∃ X, X = w.heap.size := ⟨_, rfl⟩
  rw [← eP] at HP ⊢
  have Pw : w.heap.size ≤ P := by omega
  have nPQ : P ≠ Q := by omega
  have nQP : Q ≠ P := by omega
  clear eP eQ
  have HB := Lib.hid hB0
  have AA_ := Lib.hid (AA.out.later hB0)
  clear AA
  have AA := AA_
  clear AA_
  have BB_ := Lib.hid (BB.out.later hB0)
  clear BB
  have BB := BB_
  clear BB_
  clear hB0
  have oP := HP.out
  have P0 := oP.at 0 _ rfl
  have P1 := oP.at 1 _ rfl
  have P2 := oP.at 2 _ rfl
  have P3 := oP.at 3 _ rfl
  have Pl := oP.lt
  clear oP
  have oQ := HQ.out
  have Q0 := oQ.at 0 _ rfl
  have Q1 := oQ.at 1 _ rfl
  have Q2 := oQ.at 2 _ rfl
  have Q3 := oQ.at 3 _ rfl
  have Ql := oQ.lt
  clear oQ
  cases b0 with
  | false =>
    go_wp2_with (fail)
    go_ret
    exact ⟨by rw [← EB.out]; rfl, HB.out⟩
  | true =>
    go_wp2_with (fail)
    clear P0 P1 P2 P3 Pl Q0 Q1 Q2 Q3 Ql
    go_at_call 43
    refine (RSameM_any A.M B.M _ AA.out.m BB.out.m ⟨FF.out.v, FF.out.u, FF.out.t⟩).mono ?_
    rintro e w1 ⟨rfl, hb⟩
    have HP_ := Lib.hid (HP.out.later hb)
    clear HP
    have HP := HP_
    clear HP_
    have HQ_ := Lib.hid (HQ.out.later hb)
    clear HQ
    have HQ := HQ_
    clear HQ_
    have AA_ := Lib.hid (AA.out.later hb)
    clear AA
    have AA := AA_
    clear AA_
    have BB_ := Lib.hid (BB.out.later hb)
    clear BB
    have BB := BB_
    clear BB_
    have HB_ := Lib.hid (Below.go HB.out hb)
    clear HB
    have HB := HB_
    clear HB_
    clear hb 
    rw [E1.out]
    have oP := HP.out
    have P4 := oP.at 4 _ rfl
    have P5 := oP.at 5 _ rfl
    have Pl := oP.lt
    clear oP
    have oQ := HQ.out
    have Q4 := oQ.at 4 _ rfl
    have Q5 := oQ.at 5 _ rfl
    have Ql := oQ.lt
    clear oQ
    cases b1 with
    | false =>
      go_wp2_with (fail)
      go_ret
      exact ⟨by rw [← EB.out]; rfl, HB.out⟩
    | true =>
      go_wp2_with (fail)
      clear P4 P5 Pl Q4 Q5 Ql
      go_at_call 44
      refine (RSameX_any A.X B.X _ AA.out.x BB.out.x FF.out.x).mono ?_
      rintro e w2 ⟨rfl, hb⟩
      have HP_ := Lib.hid (HP.out.later hb)
      clear HP
      have HP := HP_
      clear HP_
      have HQ_ := Lib.hid (HQ.out.later hb)
      clear HQ
      have HQ := HQ_
      clear HQ_
      have AA_ := Lib.hid (AA.out.later hb)
      clear AA
      have AA := AA_
      clear AA_
      have BB_ := Lib.hid (BB.out.later hb)
      clear BB
      have BB := BB_
      clear BB_
      have HB_ := Lib.hid (Below.go HB.out hb)
      clear HB
      have HB := HB_
      clear HB_
      clear hb 
      rw [E2.out]
      have oP := HP.out
      have P6 := oP.at 6 _ rfl
      have P7 := oP.at 7 _ rfl
      have P8 := oP.at 8 _ rfl
      have P9 := oP.at 9 _ rfl
      have P10 := oP.at 10 _ rfl
      have P11 := oP.at 11 _ rfl
      have P12 := oP.at 12 _ rfl
      have P13 := oP.at 13 _ rfl
      have P14 := oP.at 14 _ rfl
      have P15 := oP.at 15 _ rfl
      have P16 := oP.at 16 _ rfl
      have P17 := oP.at 17 _ rfl
      have P18 := oP.at 18 _ rfl
      have P19 := oP.at 19 _ rfl
      have P20 := oP.at 20 _ rfl
      have P21 := oP.at 21 _ rfl
      have P22 := oP.at 22 _ rfl
      have P23 := oP.at 23 _ rfl
      have Pl := oP.lt
      clear oP
      have oQ := HQ.out
      have Q6 := oQ.at 6 _ rfl
      have Q7 := oQ.at 7 _ rfl
      have Q8 := oQ.at 8 _ rfl
      have Q9 := oQ.at 9 _ rfl
      have Q10 := oQ.at 10 _ rfl
      have Q11 := oQ.at 11 _ rfl
      have Q12 := oQ.at 12 _ rfl
      have Q13 := oQ.at 13 _ rfl
      have Q14 := oQ.at 14 _ rfl
      have Q15 := oQ.at 15 _ rfl
      have Q16 := oQ.at 16 _ rfl
      have Q17 := oQ.at 17 _ rfl
      have Q18 := oQ.at 18 _ rfl
      have Q19 := oQ.at 19 _ rfl
      have Q20 := oQ.at 20 _ rfl
      have Q21 := oQ.at 21 _ rfl
      have Q22 := oQ.at 22 _ rfl
      have Q23 := oQ.at 23 _ rfl
      have Ql := oQ.lt
      clear oQ
      cases b2 with
      | false =>
        go_wp2_with (fail)
        go_ret
        exact ⟨by rw [← EB.out]; rfl, HB.out⟩
      | true =>
        have e6 := E6.out; have e7 := E7.out
        cases b6 with
        | false =>
          go_wp2_with (fail)
          go_ret
          exact ⟨by rw [← EB.out]; rfl, HB.out⟩
        | true =>
          cases b7 with
          | false =>
            go_wp2_with (fail)
            go_ret
            exact ⟨by rw [← EB.out]; rfl, HB.out⟩
          | true =>
            go_wp2_with (fail)
            go_ret
            exact ⟨by rw [← EB.out]; rfl, HB.out⟩
def someM (M : Msh) : Bool := decide (0 < M.nv + M.nu + M.nt)
def someX (M : Txr) : Bool := !decide (M.S = 0 ∧ M.n = 0)
set_option maxHeartbeats 4000000 in
theorem Rmesh_any (M : Msh) (w : World) (bn : M.nv ≤ 10000 ∧ M.nu ≤ 10000 ∧ M.nt ≤ 10000) : Calls Tryd.prog 32 #[(.agg #[.slice M.qv M.nv M.cv, .slice M.qu M.nu M.cu, .slice M.qt M.nt M.ct])] w fun e w' => e = .returned (.bool (someM M)) ∧ Below w.heap.size w w' := by
  have BN := Lib.hid bn
  have w1 : IntKind.i64.wrap ((M.nv : Int) + (M.nu : Int)) = (M.nv : Int) + (M.nu : Int) := IntWalk.i64_in _ (by omega)
  have w2 : IntKind.i64.wrap ((M.nv : Int) + (M.nu : Int) + (M.nt : Int)) = (M.nv : Int) + (M.nu : Int) + (M.nt : Int) := IntWalk.i64_in _ (by omega)
  obtain ⟨b, eb⟩ : ∃ b, someM M = b := ⟨_, rfl⟩
  rw [eb]
  have d0 : decide (0 < (M.nv : Int) + (M.nu : Int) + (M.nt : Int)) = b := by rw [← eb]; exact decide_eq_decide.2 (by omega)
  clear bn eb
  go_enter Tryd.func32, Tryd.ntmps32
  go_upto_region 1 with fail
  obtain ⟨W0, hW⟩ : ∃ W0, W0 = (w.alloc (.cells #[.slice M.qv M.nv M.cv, .slice M.qu M.nu M.cu, .slice M.qt M.nt M.ct] 26)) := ⟨_, rfl⟩
  have hB0 : Below w.heap.size w W0 := hW ▸ (Below.al (Below.refl _ _))
  have HA : Hid (Own w.heap.size ([.slice M.qv M.nv M.cv, .slice M.qu M.nu M.cu, .slice M.qt M.nt M.ct]) W0) := Lib.hid (hW ▸ (show Own w.heap.size ([.slice M.qv M.nv M.cv, .slice M.qu M.nu M.cu, .slice M.qt M.nt M.ct]) (w.alloc (.cells #[.slice M.qv M.nv M.cv, .slice M.qu M.nu M.cu, .slice M.qt M.nt M.ct] 26)) from Own.newAt (by simp)))
  rw [← hW]
  clear hW
  obtain ⟨A, eA⟩ : ∃ X, X = w.heap.size := ⟨_, rfl⟩
  rw [← eA] at HA ⊢
  have Aw : w.heap.size ≤ A := by omega
  clear eA
  have HB := Lib.hid hB0
  clear hB0
  have oA := HA.out
  have A0 := oA.at 0 _ rfl
  have A1 := oA.at 1 _ rfl
  have A2 := oA.at 2 _ rfl
  have Al := oA.lt
  clear oA
  go_wp2_with (fail)
  go_ret
  exact ⟨rfl, HB.out⟩
set_option maxHeartbeats 4000000 in
theorem Rtex_any (M : Txr) (w : World) : Calls Tryd.prog 30 #[(.agg #[.int .i64 M.S, .slice M.q M.n M.c])] w fun e w' => e = .returned (.bool (someX M)) ∧ Below w.heap.size w w' := by
  go_enter Tryd.func30, Tryd.ntmps30
  go_upto_region 1 with fail
  obtain ⟨W0, hW⟩ : ∃ W0, W0 = (w.alloc (.cells #[.int .i64 M.S, .slice M.q M.n M.c] 28)) := ⟨_, rfl⟩
  have hB0 : Below w.heap.size w W0 := hW ▸ (Below.al (Below.refl _ _))
  have HA : Hid (Own w.heap.size ([.int .i64 M.S, .slice M.q M.n M.c]) W0) := Lib.hid (hW ▸ (show Own w.heap.size ([.int .i64 M.S, .slice M.q M.n M.c]) (w.alloc (.cells #[.int .i64 M.S, .slice M.q M.n M.c] 28)) from Own.newAt (by simp)))
  rw [← hW]
  clear hW
  obtain ⟨A, eA⟩ : ∃ X, X = w.heap.size := ⟨_, rfl⟩
  rw [← eA] at HA ⊢
  have Aw : w.heap.size ≤ A := by omega
  clear eA
  have HB := Lib.hid hB0
  clear hB0
  have oA := HA.out
  have A0 := oA.at 0 _ rfl
  have A1 := oA.at 1 _ rfl
  have Al := oA.lt
  clear oA
  by_cases h : M.S = 0
  · have d0 : (M.S != 0) = false := by rw [h]; rfl
    have HZ : Hid (decide (0 < M.n) = someX M) := Lib.hid (by
      unfold someX
      rw [← decide_not]
      exact decide_eq_decide.2 (by omega))
    clear h
    go_wp2_with (fail)
    go_ret
    exact ⟨by rw [← HZ.out]; rfl, HB.out⟩
  · have d0 : (M.S != 0) = true := by simpa using h
    have HZ : Hid (someX M = true) := Lib.hid (by
      unfold someX
      simp [h])
    clear h
    go_wp2_with (fail)
    go_ret
    exact ⟨by rw [HZ.out]; rfl, HB.out⟩
end Go.Proofs.YtokfhhngnpbdkaaDoor
