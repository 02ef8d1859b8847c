/- asset: assets as records; Same. -/
import Derived.Test.YtokfhhngnpbdkaaDoorIH
import Derived.Lib.Hide
import Derived.LoopN
import Derived.LoopTactic
import Derived.Deep.Onto
import Derived.Deep.RegionHeld3
import Derived.Deep.QuietTactic
import Derived.BigQuiet
import Derived.Great.BuildSlice
import Derived.StillTailTactics
import Derived.Lib.SliceRun
namespace Go.Proofs.YtokfhhngnpbdkaaDoor
set_option linter.unusedVariables false
set_option maxRecDepth 2000
set_option linter.unusedSimpArgs false
open Go.RowKit
/-- an asset -/
structure Ast where
  k : Int
  M : Msh
  X : Txr
  g : Nat → Int
  l : Nat → Int
structure AstAt (A : Ast) (w : World) : Prop where
  m : MeshAt A.M w
  x : TxAt A.X w
theorem AstAt.later {A : Ast} {w w' : World} (h : AstAt A w) (hb : Below w.heap.size w w') : AstAt A w' := ⟨h.m.later hb, h.x.later hb⟩
/-- its lists aren't long -/
structure FewA (A : Ast) : Prop where
  v : A.M.nv ≤ 10000
  u : A.M.nu ≤ 10000
  t : A.M.nt ≤ 10000
  x : A.X.n ≤ 10000
def sameA (A B : Ast) : Bool := (A.k == B.k) && (eqS3 A.M.nv B.M.nv A.M.V B.M.V && (eqS2 A.M.nu B.M.nu A.M.U B.M.U && (eqS3 A.M.nt B.M.nt A.M.R B.M.R && ((A.X.S == B.X.S) && (eqS3 A.X.n B.X.n A.X.f B.X.f && (matB A.g B.g && lgtB A.l B.l))))))
structure EqA (A B : Ast) : Prop where
  k : A.k = B.k
  v : A.M.nv = B.M.nv ∧ ∀ j, j < A.M.nv * 3 → A.M.V j = B.M.V j
  u : A.M.nu = B.M.nu ∧ ∀ j, j < A.M.nu * 2 → A.M.U j = B.M.U j
  t : A.M.nt = B.M.nt ∧ ∀ j, j < A.M.nt * 3 → A.M.R j = B.M.R j
  s : A.X.S = B.X.S
  x : A.X.n = B.X.n ∧ ∀ j, j < A.X.n * 3 → A.X.f j = B.X.f j
  g : ∀ j, j < 5 → A.g j = B.g j
  l : ∀ j, j < 13 → A.l j = B.l j
theorem sameA_iff {A B : Ast} : sameA A B = true ↔ EqA A B := by
  unfold sameA
  simp only [Bool.and_eq_true, beq_iff_eq, eqS3_iff, eqS2_iff, matB_iff, lgtB_iff]
  exact ⟨fun ⟨a, b, c, d, e, f, g, h⟩ => ⟨a, b, c, d, e, f, g, h⟩, fun ⟨a, b, c, d, e, f, g, h⟩ => ⟨a, b, c, d, e, f, g, h⟩⟩
theorem EqA.refl (A : Ast) : EqA A A := ⟨rfl, ⟨rfl, fun _ _ => rfl⟩, ⟨rfl, fun _ _ => rfl⟩, ⟨rfl, fun _ _ => rfl⟩, rfl, ⟨rfl, fun _ _ => rfl⟩, fun _ _ => rfl, fun _ _ => rfl⟩
theorem sameA_self (A : Ast) : sameA A A = true := sameA_iff.2 (EqA.refl A)
attribute [local go_sem ↓] eqlMat eqlLgt
set_option maxHeartbeats 16000000 in
theorem Same_any (A B : Ast) (w : World) (hA : AstAt A w) (hB : AstAt B w) (hF : FewA A) : Calls Tryd.prog 22 #[(.agg #[.int .i64 A.k, .slice A.M.qv A.M.nv A.M.cv, .slice A.M.qu A.M.nu A.M.cu, .slice A.M.qt A.M.nt A.M.ct, .int .i64 A.X.S, .slice A.X.q A.X.n A.X.c, .int .i64 (A.g 0), .int .i64 (A.g 1), .int .i64 (A.g 2), .int .i64 (A.g 3), .int .i64 (A.g 4), .int .i64 (A.l 0), .int .i64 (A.l 1), .int .i64 (A.l 2), .int .i64 (A.l 3), .int .i64 (A.l 4), .int .i64 (A.l 5), .int .i64 (A.l 6), .int .i64 (A.l 7), .int .i64 (A.l 8), .int .i64 (A.l 9), .int .i64 (A.l 10), .int .i64 (A.l 11), .int .i64 (A.l 12)]), (.agg #[.int .i64 B.k, .slice B.M.qv B.M.nv B.M.cv, .slice B.M.qu B.M.nu B.M.cu, .slice B.M.qt B.M.nt B.M.ct, .int .i64 B.X.S, .slice B.X.q B.X.n B.X.c, .int .i64 (B.g 0), .int .i64 (B.g 1), .int .i64 (B.g 2), .int .i64 (B.g 3), .int .i64 (B.g 4), .int .i64 (B.l 0), .int .i64 (B.l 1), .int .i64 (B.l 2), .int .i64 (B.l 3), .int .i64 (B.l 4), .int .i64 (B.l 5), .int .i64 (B.l 6), .int .i64 (B.l 7), .int .i64 (B.l 8), .int .i64 (B.l 9), .int .i64 (B.l 10), .int .i64 (B.l 11), .int .i64 (B.l 12)])] w fun e w' => e = .returned (.bool (sameA A B)) ∧ Below w.heap.size w w' := by
  have AA := Lib.hid hA; have BB := Lib.hid hB; have FF := Lib.hid hF
  obtain ⟨b, eb⟩ : ∃ b, sameA A B = b := ⟨_, rfl⟩
  rw [eb]
  have EB := Lib.hid eb
  unfold sameA at EB
  obtain ⟨b0, e0⟩ : ∃ b, (A.k == B.k) = b := ⟨_, rfl⟩
  obtain ⟨b1, e1⟩ : ∃ b, eqS3 A.M.nv B.M.nv A.M.V B.M.V = b := ⟨_, rfl⟩
  obtain ⟨b2, e2⟩ : ∃ b, eqS2 A.M.nu B.M.nu A.M.U B.M.U = b := ⟨_, rfl⟩
  obtain ⟨b3, e3⟩ : ∃ b, eqS3 A.M.nt B.M.nt A.M.R B.M.R = b := ⟨_, rfl⟩
  obtain ⟨b4, e4⟩ : ∃ b, (A.X.S == B.X.S) = b := ⟨_, rfl⟩
  obtain ⟨b5, e5⟩ : ∃ b, eqS3 A.X.n B.X.n A.X.f B.X.f = b := ⟨_, rfl⟩
  obtain ⟨b6, e6⟩ : ∃ b, matB A.g B.g = b := ⟨_, rfl⟩
  obtain ⟨b7, e7⟩ : ∃ b, lgtB A.l B.l = b := ⟨_, rfl⟩
  rw [e0, e1, e2, e3, e4, e5, e6, e7] at EB
  have E1 := Lib.hid e1; have E2 := Lib.hid e2; have E3 := Lib.hid e3; have E5 := Lib.hid e5
  have E4 := Lib.hid e4; have E6 := Lib.hid e6; have E7 := Lib.hid e7
  clear hA hB hF eb e1 e2 e3 e5 e4 e6 e7
  go_enter Tryd.func22, Tryd.ntmps22
  go_upto_region 1 with fail
  simp only [List.append]
  obtain ⟨W0, hW⟩ : ∃ W0, W0 = ((w.alloc (.cells #[.int .i64 A.k, .slice A.M.qv A.M.nv A.M.cv, .slice A.M.qu A.M.nu A.M.cu, .slice A.M.qt A.M.nt A.M.ct, .int .i64 A.X.S, .slice A.X.q A.X.n A.X.c, .int .i64 (A.g 0), .int .i64 (A.g 1), .int .i64 (A.g 2), .int .i64 (A.g 3), .int .i64 (A.g 4), .int .i64 (A.l 0), .int .i64 (A.l 1), .int .i64 (A.l 2), .int .i64 (A.l 3), .int .i64 (A.l 4), .int .i64 (A.l 5), .int .i64 (A.l 6), .int .i64 (A.l 7), .int .i64 (A.l 8), .int .i64 (A.l 9), .int .i64 (A.l 10), .int .i64 (A.l 11), .int .i64 (A.l 12)] 37)).alloc (.cells #[.int .i64 B.k, .slice B.M.qv B.M.nv B.M.cv, .slice B.M.qu B.M.nu B.M.cu, .slice B.M.qt B.M.nt B.M.ct, .int .i64 B.X.S, .slice B.X.q B.X.n B.X.c, .int .i64 (B.g 0), .int .i64 (B.g 1), .int .i64 (B.g 2), .int .i64 (B.g 3), .int .i64 (B.g 4), .int .i64 (B.l 0), .int .i64 (B.l 1), .int .i64 (B.l 2), .int .i64 (B.l 3), .int .i64 (B.l 4), .int .i64 (B.l 5), .int .i64 (B.l 6), .int .i64 (B.l 7), .int .i64 (B.l 8), .int .i64 (B.l 9), .int .i64 (B.l 10), .int .i64 (B.l 11), .int .i64 (B.l 12)] 37)) := ⟨_, rfl⟩
  have hB0 : Below w.heap.size w W0 := hW ▸ (Below.al (Below.al (Below.refl _ _)))
  have HP : Hid (Own w.heap.size ([.int .i64 A.k, .slice A.M.qv A.M.nv A.M.cv, .slice A.M.qu A.M.nu A.M.cu, .slice A.M.qt A.M.nt A.M.ct, .int .i64 A.X.S, .slice A.X.q A.X.n A.X.c, .int .i64 (A.g 0), .int .i64 (A.g 1), .int .i64 (A.g 2), .int .i64 (A.g 3), .int .i64 (A.g 4), .int .i64 (A.l 0), .int .i64 (A.l 1), .int .i64 (A.l 2), .int .i64 (A.l 3), .int .i64 (A.l 4), .int .i64 (A.l 5), .int .i64 (A.l 6), .int .i64 (A.l 7), .int .i64 (A.l 8), .int .i64 (A.l 9), .int .i64 (A.l 10), .int .i64 (A.l 11), .int .i64 (A.l 12)]) W0) := Lib.hid (hW ▸ (show Own w.heap.size ([.int .i64 A.k, .slice A.M.qv A.M.nv A.M.cv, .slice A.M.qu A.M.nu A.M.cu, .slice A.M.qt A.M.nt A.M.ct, .int .i64 A.X.S, .slice A.X.q A.X.n A.X.c, .int .i64 (A.g 0), .int .i64 (A.g 1), .int .i64 (A.g 2), .int .i64 (A.g 3), .int .i64 (A.g 4), .int .i64 (A.l 0), .int .i64 (A.l 1), .int .i64 (A.l 2), .int .i64 (A.l 3), .int .i64 (A.l 4), .int .i64 (A.l 5), .int .i64 (A.l 6), .int .i64 (A.l 7), .int .i64 (A.l 8), .int .i64 (A.l 9), .int .i64 (A.l 10), .int .i64 (A.l 11), .int .i64 (A.l 12)]) (w.alloc (.cells #[.int .i64 A.k, .slice A.M.qv A.M.nv A.M.cv, .slice A.M.qu A.M.nu A.M.cu, .slice A.M.qt A.M.nt A.M.ct, .int .i64 A.X.S, .slice A.X.q A.X.n A.X.c, .int .i64 (A.g 0), .int .i64 (A.g 1), .int .i64 (A.g 2), .int .i64 (A.g 3), .int .i64 (A.g 4), .int .i64 (A.l 0), .int .i64 (A.l 1), .int .i64 (A.l 2), .int .i64 (A.l 3), .int .i64 (A.l 4), .int .i64 (A.l 5), .int .i64 (A.l 6), .int .i64 (A.l 7), .int .i64 (A.l 8), .int .i64 (A.l 9), .int .i64 (A.l 10), .int .i64 (A.l 11), .int .i64 (A.l 12)] 37)) from Own.newAt (by simp)).alloc)
  have HQ : Hid (Own (w.heap.size + 1) ([.int .i64 B.k, .slice B.M.qv B.M.nv B.M.cv, .slice B.M.qu B.M.nu B.M.cu, .slice B.M.qt B.M.nt B.M.ct, .int .i64 B.X.S, .slice B.X.q B.X.n B.X.c, .int .i64 (B.g 0), .int .i64 (B.g 1), .int .i64 (B.g 2), .int .i64 (B.g 3), .int .i64 (B.g 4), .int .i64 (B.l 0), .int .i64 (B.l 1), .int .i64 (B.l 2), .int .i64 (B.l 3), .int .i64 (B.l 4), .int .i64 (B.l 5), .int .i64 (B.l 6), .int .i64 (B.l 7), .int .i64 (B.l 8), .int .i64 (B.l 9), .int .i64 (B.l 10), .int .i64 (B.l 11), .int .i64 (B.l 12)]) W0) := Lib.hid (hW ▸ (show Own (w.heap.size + 1) ([.int .i64 B.k, .slice B.M.qv B.M.nv B.M.cv, .slice B.M.qu B.M.nu B.M.cu, .slice B.M.qt B.M.nt B.M.ct, .int .i64 B.X.S, .slice B.X.q B.X.n B.X.c, .int .i64 (B.g 0), .int .i64 (B.g 1), .int .i64 (B.g 2), .int .i64 (B.g 3), .int .i64 (B.g 4), .int .i64 (B.l 0), .int .i64 (B.l 1), .int .i64 (B.l 2), .int .i64 (B.l 3), .int .i64 (B.l 4), .int .i64 (B.l 5), .int .i64 (B.l 6), .int .i64 (B.l 7), .int .i64 (B.l 8), .int .i64 (B.l 9), .int .i64 (B.l 10), .int .i64 (B.l 11), .int .i64 (B.l 12)]) ((w.alloc (.cells #[.int .i64 A.k, .slice A.M.qv A.M.nv A.M.cv, .slice A.M.qu A.M.nu A.M.cu, .slice A.M.qt A.M.nt A.M.ct, .int .i64 A.X.S, .slice A.X.q A.X.n A.X.c, .int .i64 (A.g 0), .int .i64 (A.g 1), .int .i64 (A.g 2), .int .i64 (A.g 3), .int .i64 (A.g 4), .int .i64 (A.l 0), .int .i64 (A.l 1), .int .i64 (A.l 2), .int .i64 (A.l 3), .int .i64 (A.l 4), .int .i64 (A.l 5), .int .i64 (A.l 6), .int .i64 (A.l 7), .int .i64 (A.l 8), .int .i64 (A.l 9), .int .i64 (A.l 10), .int .i64 (A.l 11), .int .i64 (A.l 12)] 37)).alloc (.cells #[.int .i64 B.k, .slice B.M.qv B.M.nv B.M.cv, .slice B.M.qu B.M.nu B.M.cu, .slice B.M.qt B.M.nt B.M.ct, .int .i64 B.X.S, .slice B.X.q B.X.n B.X.c, .int .i64 (B.g 0), .int .i64 (B.g 1), .int .i64 (B.g 2), .int .i64 (B.g 3), .int .i64 (B.g 4), .int .i64 (B.l 0), .int .i64 (B.l 1), .int .i64 (B.l 2), .int .i64 (B.l 3), .int .i64 (B.l 4), .int .i64 (B.l 5), .int .i64 (B.l 6), .int .i64 (B.l 7), .int .i64 (B.l 8), .int .i64 (B.l 9), .int .i64 (B.l 10), .int .i64 (B.l 11), .int .i64 (B.l 12)] 37)) from Own.newAt (by simp)))
  rw [← hW]
  clear hW
  obtain ⟨Q, eQ⟩ : ∃ X, X = (w.heap.size + 1) := ⟨_, rfl⟩
  rw [← eQ] at HQ ⊢
  have Qw : w.heap.size ≤ Q := by omega
  obtain ⟨P, eP⟩ : ∃ X, X = w.heap.size := ⟨_, rfl⟩
  rw [← eP] at HP ⊢
  have Pw : w.heap.size ≤ P := by omega
  have nPQ : P ≠ Q := by omega
  have nQP : Q ≠ P := by omega
  clear eP eQ
  have HB := Lib.hid hB0
  have AA_ := Lib.hid (AA.out.later hB0)
  clear AA
  have AA := AA_
  clear AA_
  have BB_ := Lib.hid (BB.out.later hB0)
  clear BB
  have BB := BB_
  clear BB_
  clear hB0
  have oP := HP.out
  have P0 := oP.at 0 _ rfl
  have P1 := oP.at 1 _ rfl
  have Pl := oP.lt
  clear oP
  have oQ := HQ.out
  have Q0 := oQ.at 0 _ rfl
  have Q1 := oQ.at 1 _ rfl
  have Ql := oQ.lt
  clear oQ
  cases b0 with
  | false =>
    go_wp2_with (fail)
    go_ret
    exact ⟨by rw [← EB.out]; rfl, HB.out⟩
  | true =>
    go_wp2_with (fail)
    clear P0 P1 Pl Q0 Q1 Ql
    go_at_call 45
    refine (EqP_any _ _ _ A.M.V _ _ _ B.M.V (Nat.le_trans FF.out.v (by decide)) _ AA.out.m.v BB.out.m.v).mono ?_
    rintro e w1 ⟨rfl, hb⟩
    have HP_ := Lib.hid (HP.out.later hb)
    clear HP
    have HP := HP_
    clear HP_
    have HQ_ := Lib.hid (HQ.out.later hb)
    clear HQ
    have HQ := HQ_
    clear HQ_
    have AA_ := Lib.hid (AA.out.later hb)
    clear AA
    have AA := AA_
    clear AA_
    have BB_ := Lib.hid (BB.out.later hb)
    clear BB
    have BB := BB_
    clear BB_
    have HB_ := Lib.hid (Below.go HB.out hb)
    clear HB
    have HB := HB_
    clear HB_
    clear hb 
    rw [E1.out]
    have oP := HP.out
    have P2 := oP.at 2 _ rfl
    have Pl := oP.lt
    clear oP
    have oQ := HQ.out
    have Q2 := oQ.at 2 _ rfl
    have Ql := oQ.lt
    clear oQ
    cases b1 with
    | false =>
      go_wp2_with (fail)
      go_ret
      exact ⟨by rw [← EB.out]; rfl, HB.out⟩
    | true =>
      go_wp2_with (fail)
      clear P2 Pl Q2 Ql
      go_at_call 46
      refine (EqU_any _ _ _ A.M.U _ _ _ B.M.U (Nat.le_trans FF.out.u (by decide)) _ AA.out.m.u BB.out.m.u).mono ?_
      rintro e w2 ⟨rfl, hb⟩
      have HP_ := Lib.hid (HP.out.later hb)
      clear HP
      have HP := HP_
      clear HP_
      have HQ_ := Lib.hid (HQ.out.later hb)
      clear HQ
      have HQ := HQ_
      clear HQ_
      have AA_ := Lib.hid (AA.out.later hb)
      clear AA
      have AA := AA_
      clear AA_
      have BB_ := Lib.hid (BB.out.later hb)
      clear BB
      have BB := BB_
      clear BB_
      have HB_ := Lib.hid (Below.go HB.out hb)
      clear HB
      have HB := HB_
      clear HB_
      clear hb 
      rw [E2.out]
      have oP := HP.out
      have P3 := oP.at 3 _ rfl
      have Pl := oP.lt
      clear oP
      have oQ := HQ.out
      have Q3 := oQ.at 3 _ rfl
      have Ql := oQ.lt
      clear oQ
      cases b2 with
      | false =>
        go_wp2_with (fail)
        go_ret
        exact ⟨by rw [← EB.out]; rfl, HB.out⟩
      | true =>
        go_wp2_with (fail)
        clear P3 Pl Q3 Ql
        go_at_call 47
        refine (EqT_any _ _ _ A.M.R _ _ _ B.M.R (Nat.le_trans FF.out.t (by decide)) _ AA.out.m.t BB.out.m.t).mono ?_
        rintro e w3 ⟨rfl, hb⟩
        have HP_ := Lib.hid (HP.out.later hb)
        clear HP
        have HP := HP_
        clear HP_
        have HQ_ := Lib.hid (HQ.out.later hb)
        clear HQ
        have HQ := HQ_
        clear HQ_
        have AA_ := Lib.hid (AA.out.later hb)
        clear AA
        have AA := AA_
        clear AA_
        have BB_ := Lib.hid (BB.out.later hb)
        clear BB
        have BB := BB_
        clear BB_
        have HB_ := Lib.hid (Below.go HB.out hb)
        clear HB
        have HB := HB_
        clear HB_
        clear hb 
        rw [E3.out]
        have oP := HP.out
        have P4 := oP.at 4 _ rfl
        have P5 := oP.at 5 _ rfl
        have Pl := oP.lt
        clear oP
        have oQ := HQ.out
        have Q4 := oQ.at 4 _ rfl
        have Q5 := oQ.at 5 _ rfl
        have Ql := oQ.lt
        clear oQ
        cases b3 with
        | false =>
          go_wp2_with (fail)
          go_ret
          exact ⟨by rw [← EB.out]; rfl, HB.out⟩
        | true =>
          have e4 := E4.out
          clear E4
          cases b4 with
          | false =>
            go_wp2_with (fail)
            go_ret
            exact ⟨by rw [← EB.out]; rfl, HB.out⟩
          | true =>
            go_wp2_with (fail)
            clear P4 P5 Pl Q4 Q5 Ql
            go_at_call 47
            refine (EqT_any _ _ _ A.X.f _ _ _ B.X.f (Nat.le_trans FF.out.x (by decide)) _ AA.out.x.t BB.out.x.t).mono ?_
            rintro e w4 ⟨rfl, hb⟩
            have HP_ := Lib.hid (HP.out.later hb)
            clear HP
            have HP := HP_
            clear HP_
            have HQ_ := Lib.hid (HQ.out.later hb)
            clear HQ
            have HQ := HQ_
            clear HQ_
            have AA_ := Lib.hid (AA.out.later hb)
            clear AA
            have AA := AA_
            clear AA_
            have BB_ := Lib.hid (BB.out.later hb)
            clear BB
            have BB := BB_
            clear BB_
            have HB_ := Lib.hid (Below.go HB.out hb)
            clear HB
            have HB := HB_
            clear HB_
            clear hb 
            rw [E5.out]
            have oP := HP.out
            have P6 := oP.at 6 _ rfl
            have P7 := oP.at 7 _ rfl
            have P8 := oP.at 8 _ rfl
            have P9 := oP.at 9 _ rfl
            have P10 := oP.at 10 _ rfl
            have P11 := oP.at 11 _ rfl
            have P12 := oP.at 12 _ rfl
            have P13 := oP.at 13 _ rfl
            have P14 := oP.at 14 _ rfl
            have P15 := oP.at 15 _ rfl
            have P16 := oP.at 16 _ rfl
            have P17 := oP.at 17 _ rfl
            have P18 := oP.at 18 _ rfl
            have P19 := oP.at 19 _ rfl
            have P20 := oP.at 20 _ rfl
            have P21 := oP.at 21 _ rfl
            have P22 := oP.at 22 _ rfl
            have P23 := oP.at 23 _ rfl
            have Pl := oP.lt
            clear oP
            have oQ := HQ.out
            have Q6 := oQ.at 6 _ rfl
            have Q7 := oQ.at 7 _ rfl
            have Q8 := oQ.at 8 _ rfl
            have Q9 := oQ.at 9 _ rfl
            have Q10 := oQ.at 10 _ rfl
            have Q11 := oQ.at 11 _ rfl
            have Q12 := oQ.at 12 _ rfl
            have Q13 := oQ.at 13 _ rfl
            have Q14 := oQ.at 14 _ rfl
            have Q15 := oQ.at 15 _ rfl
            have Q16 := oQ.at 16 _ rfl
            have Q17 := oQ.at 17 _ rfl
            have Q18 := oQ.at 18 _ rfl
            have Q19 := oQ.at 19 _ rfl
            have Q20 := oQ.at 20 _ rfl
            have Q21 := oQ.at 21 _ rfl
            have Q22 := oQ.at 22 _ rfl
            have Q23 := oQ.at 23 _ rfl
            have Ql := oQ.lt
            clear oQ
            cases b5 with
            | false =>
              go_wp2_with (fail)
              go_ret
              exact ⟨by rw [← EB.out]; rfl, HB.out⟩
            | true =>
              have e6 := E6.out; have e7 := E7.out
              cases b6 with
              | false =>
                go_wp2_with (fail)
                go_ret
                exact ⟨by rw [← EB.out]; rfl, HB.out⟩
              | true =>
                cases b7 with
                | false =>
                  go_wp2_with (fail)
                  go_ret
                  exact ⟨by rw [← EB.out]; rfl, HB.out⟩
                | true =>
                  go_wp2_with (fail)
                  go_ret
                  exact ⟨by rw [← EB.out]; rfl, HB.out⟩
end Go.Proofs.YtokfhhngnpbdkaaDoor
