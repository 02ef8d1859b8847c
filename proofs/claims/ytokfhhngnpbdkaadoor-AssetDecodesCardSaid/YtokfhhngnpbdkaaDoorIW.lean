/- asset: the document's Check and Encode. -/
import Derived.Test.YtokfhhngnpbdkaaDoorIU
import Derived.Test.YtokfhhngnpbdkaaDoorIV
import Derived.Test.YtokfhhngnpbdkaaDoorIO
import Derived.Lib.Hide
import Derived.LoopN
import Derived.LoopTactic
import Derived.Deep.Onto
import Derived.Deep.RegionHeld3
import Derived.Deep.QuietTactic
import Derived.BigQuiet
import Derived.Great.BuildSlice
import Derived.StillTailTactics
import Derived.Lib.SliceRun
import Derived.OrdersHeld
namespace Go.Proofs.YtokfhhngnpbdkaaDoor
set_option linter.unusedVariables false
set_option maxRecDepth 2000
set_option linter.unusedSimpArgs false
open Go.RowKit
theorem neqMat0 (f : Nat → Int) (w : World) : (binOp .neq 31 (.agg #[.int .i64 (f 0), .int .i64 (f 1), .int .i64 (f 2), .int .i64 (f 3), .int .i64 (f 4)]) (.agg #[.int .i64 0, .int .i64 0, .int .i64 0, .int .i64 0, .int .i64 0])).run Tryd.prog w = .ok (.bool (!matB f (fun _ => 0))) w := neqMat f (fun _ => 0) w
theorem neqLgt0 (f : Nat → Int) (w : World) : (binOp .neq 35 (.agg #[.int .i64 (f 0), .int .i64 (f 1), .int .i64 (f 2), .int .i64 (f 3), .int .i64 (f 4), .int .i64 (f 5), .int .i64 (f 6), .int .i64 (f 7), .int .i64 (f 8), .int .i64 (f 9), .int .i64 (f 10), .int .i64 (f 11), .int .i64 (f 12)]) (.agg #[.int .i64 0, .int .i64 0, .int .i64 0, .int .i64 0, .int .i64 0, .int .i64 0, .int .i64 0, .int .i64 0, .int .i64 0, .int .i64 0, .int .i64 0, .int .i64 0, .int .i64 0])).run Tryd.prog w = .ok (.bool (!lgtB f (fun _ => 0))) w := neqLgt f (fun _ => 0) w
attribute [local go_sem ↓] neqMat0 neqLgt0
theorem RCapB (k : Int) (w : World) : Calls Tryd.prog 34 #[.int .i64 k] w fun e w' => e = .returned (.int .i64 (capF k)) ∧ Below w.heap.size w w' := (RCap_any k w).mono fun _ _ h => ⟨h.1, by rw [h.2]; exact Below.refl _ _⟩
theorem nil_eqS3 (n : Nat) (f g : Nat → Int) : eqS3 n 0 f g = decide (n = 0) := by
  cases n with
  | zero => rfl
  | succ n => rw [eqS3_len (by omega)]; rfl
theorem nil_eqS2 (n : Nat) (f g : Nat → Int) : eqS2 n 0 f g = decide (n = 0) := by
  cases n with
  | zero => rfl
  | succ n => rw [eqS2_len (by omega)]; rfl
theorem sameM_nil (M : Msh) : sameM M nilM = !someM M := by
  show (eqS3 M.nv 0 M.V (fun _ => 0) && (eqS2 M.nu 0 M.U (fun _ => 0) && eqS3 M.nt 0 M.R (fun _ => 0))) = _
  rw [nil_eqS3, nil_eqS2, nil_eqS3]
  unfold someM
  rw [← decide_not, Bool.eq_iff_iff]
  simp only [Bool.and_eq_true, decide_eq_true_eq]
  omega
theorem sameX_nil (X : Txr) : sameX X nilX = !someX X := by
  show ((X.S == 0) && eqS3 X.n 0 X.f (fun _ => 0)) = _
  rw [nil_eqS3]
  unfold someX
  rw [Bool.not_not, Bool.eq_iff_iff]
  simp only [Bool.and_eq_true, decide_eq_true_eq, beq_iff_eq]
theorem matB_self (f : Nat → Int) : matB f f = true := matB_iff.2 fun _ _ => rfl
theorem lgtB_self (f : Nat → Int) : lgtB f f = true := lgtB_iff.2 fun _ _ => rfl
theorem oth_1 (A : Ast) : sameA ⟨1, nilM, A.X, A.g, A.l⟩ (kinA 1) = (!someX A.X && (matB A.g (fun _ => 0) && lgtB A.l (fun _ => 0))) := by
  rw [sameA_eq, ← sameX_nil]
  show (((1 : Int) == 1) && (sameM nilM nilM && _)) = _
  rfl
theorem oth_2 (A : Ast) : sameA ⟨2, A.M, nilX, A.g, A.l⟩ (kinA 2) = (!someM A.M && (matB A.g (fun _ => 0) && lgtB A.l (fun _ => 0))) := by
  rw [sameA_eq, ← sameM_nil]
  show (((2 : Int) == 2) && (sameM A.M nilM && (sameX nilX nilX && _))) = _
  rw [show sameX nilX nilX = true from rfl, Bool.true_and]
  rfl
theorem oth_3 (A : Ast) : sameA ⟨3, A.M, A.X, fun _ => 0, A.l⟩ (kinA 3) = (!someM A.M && (!someX A.X && lgtB A.l (fun _ => 0))) := by
  rw [sameA_eq, ← sameM_nil, ← sameX_nil]
  show (((3 : Int) == 3) && (sameM A.M nilM && (sameX A.X nilX && (matB (fun _ => 0) (fun _ => 0) && _)))) = _
  rw [matB_self, Bool.true_and]
  rfl
theorem oth_4 (A : Ast) : sameA ⟨4, A.M, A.X, A.g, fun _ => 0⟩ (kinA 4) = (!someM A.M && (!someX A.X && matB A.g (fun _ => 0))) := by
  rw [sameA_eq, ← sameM_nil, ← sameX_nil]
  show (((4 : Int) == 4) && (sameM A.M nilM && (sameX A.X nilX && (matB A.g (fun _ => 0) && lgtB (fun _ => 0) (fun _ => 0))))) = _
  rw [lgtB_self, Bool.and_true]
  rfl
set_option maxHeartbeats 16000000 in
theorem RACheck_1 (A : Ast) (hF : FewA A) (w : World) (hA : AstAt A w) : Calls Tryd.prog 14 #[(.agg #[.int .i64 1, .slice A.M.qv A.M.nv A.M.cv, .slice A.M.qu A.M.nu A.M.cu, .slice A.M.qt A.M.nt A.M.ct, .int .i64 A.X.S, .slice A.X.q A.X.n A.X.c, .int .i64 (A.g 0), .int .i64 (A.g 1), .int .i64 (A.g 2), .int .i64 (A.g 3), .int .i64 (A.g 4), .int .i64 (A.l 0), .int .i64 (A.l 1), .int .i64 (A.l 2), .int .i64 (A.l 3), .int .i64 (A.l 4), .int .i64 (A.l 5), .int .i64 (A.l 6), .int .i64 (A.l 7), .int .i64 (A.l 8), .int .i64 (A.l 9), .int .i64 (A.l 10), .int .i64 (A.l 11), .int .i64 (A.l 12)])] w fun e w' => e = .returned (.int .i64 (chk2 (chkM A.M) (sameA ⟨1, nilM, A.X, A.g, A.l⟩ (kinA 1)))) ∧ Below w.heap.size w w' := by
  have AA := Lib.hid hA; have FF := Lib.hid hF
  have CON := Lib.hid (RCheck_any A.M)
  have RM : Hid (chkM A.M = 0 → encN A.M.nv A.M.nu A.M.nt ≤ 2048) := Lib.hid (fun h => room_1 h)
  have CB := Lib.hid (fun (w : World) (h : AstAt A w) (hz : chkM A.M = 0) => show Calls Tryd.prog 33 #[(.agg #[.int .i64 1, .slice A.M.qv A.M.nv A.M.cv, .slice A.M.qu A.M.nu A.M.cu, .slice A.M.qt A.M.nt A.M.ct, .int .i64 A.X.S, .slice A.X.q A.X.n A.X.c, .int .i64 (A.g 0), .int .i64 (A.g 1), .int .i64 (A.g 2), .int .i64 (A.g 3), .int .i64 (A.g 4), .int .i64 (A.l 0), .int .i64 (A.l 1), .int .i64 (A.l 2), .int .i64 (A.l 3), .int .i64 (A.l 4), .int .i64 (A.l 5), .int .i64 (A.l 6), .int .i64 (A.l 7), .int .i64 (A.l 8), .int .i64 (A.l 9), .int .i64 (A.l 10), .int .i64 (A.l 11), .int .i64 (A.l 12)])] w fun e w' => (∃ v, e = .returned v ∧ RowR w' v (encN A.M.nv A.M.nu A.M.nt) (encF A.M.nv A.M.nu A.M.nt A.M.V A.M.U A.M.R)) ∧ Below w.heap.size w w' by
    have := Rbytes_1 A w h
    rw [hz] at this
    exact this)
  rw [oth_1]
  obtain ⟨z, ez⟩ : ∃ z, chkM A.M = z := ⟨_, rfl⟩
  rw [ez] at CON RM CB ⊢
  obtain ⟨b0, eb0⟩ : ∃ b, someX A.X = b := ⟨_, rfl⟩
  have EB0 := Lib.hid eb0
  rw [eb0]
  obtain ⟨b1, eb1⟩ : ∃ b, matB A.g (fun _ => 0) = b := ⟨_, rfl⟩
  have EB1 := Lib.hid eb1
  rw [eb1]
  obtain ⟨b2, eb2⟩ : ∃ b, lgtB A.l (fun _ => 0) = b := ⟨_, rfl⟩
  have EB2 := Lib.hid eb2
  rw [eb2]
  clear hA hF ez eb0 eb1 eb2
  generalize encN A.M.nv A.M.nu A.M.nt = len at *
  go_enter Tryd.func14, Tryd.ntmps14
  go_upto_region 3 with fail
  obtain ⟨W0, hW⟩ : ∃ W0, W0 = (w.alloc (.cells #[.int .i64 1, .slice A.M.qv A.M.nv A.M.cv, .slice A.M.qu A.M.nu A.M.cu, .slice A.M.qt A.M.nt A.M.ct, .int .i64 A.X.S, .slice A.X.q A.X.n A.X.c, .int .i64 (A.g 0), .int .i64 (A.g 1), .int .i64 (A.g 2), .int .i64 (A.g 3), .int .i64 (A.g 4), .int .i64 (A.l 0), .int .i64 (A.l 1), .int .i64 (A.l 2), .int .i64 (A.l 3), .int .i64 (A.l 4), .int .i64 (A.l 5), .int .i64 (A.l 6), .int .i64 (A.l 7), .int .i64 (A.l 8), .int .i64 (A.l 9), .int .i64 (A.l 10), .int .i64 (A.l 11), .int .i64 (A.l 12)] 37)) := ⟨_, rfl⟩
  have hB0 : Below w.heap.size w W0 := hW ▸ (Below.al (Below.refl _ _))
  have HP : Hid (Own w.heap.size ([.int .i64 1, .slice A.M.qv A.M.nv A.M.cv, .slice A.M.qu A.M.nu A.M.cu, .slice A.M.qt A.M.nt A.M.ct, .int .i64 A.X.S, .slice A.X.q A.X.n A.X.c, .int .i64 (A.g 0), .int .i64 (A.g 1), .int .i64 (A.g 2), .int .i64 (A.g 3), .int .i64 (A.g 4), .int .i64 (A.l 0), .int .i64 (A.l 1), .int .i64 (A.l 2), .int .i64 (A.l 3), .int .i64 (A.l 4), .int .i64 (A.l 5), .int .i64 (A.l 6), .int .i64 (A.l 7), .int .i64 (A.l 8), .int .i64 (A.l 9), .int .i64 (A.l 10), .int .i64 (A.l 11), .int .i64 (A.l 12)]) W0) := Lib.hid (hW ▸ (show Own w.heap.size ([.int .i64 1, .slice A.M.qv A.M.nv A.M.cv, .slice A.M.qu A.M.nu A.M.cu, .slice A.M.qt A.M.nt A.M.ct, .int .i64 A.X.S, .slice A.X.q A.X.n A.X.c, .int .i64 (A.g 0), .int .i64 (A.g 1), .int .i64 (A.g 2), .int .i64 (A.g 3), .int .i64 (A.g 4), .int .i64 (A.l 0), .int .i64 (A.l 1), .int .i64 (A.l 2), .int .i64 (A.l 3), .int .i64 (A.l 4), .int .i64 (A.l 5), .int .i64 (A.l 6), .int .i64 (A.l 7), .int .i64 (A.l 8), .int .i64 (A.l 9), .int .i64 (A.l 10), .int .i64 (A.l 11), .int .i64 (A.l 12)]) (w.alloc (.cells #[.int .i64 1, .slice A.M.qv A.M.nv A.M.cv, .slice A.M.qu A.M.nu A.M.cu, .slice A.M.qt A.M.nt A.M.ct, .int .i64 A.X.S, .slice A.X.q A.X.n A.X.c, .int .i64 (A.g 0), .int .i64 (A.g 1), .int .i64 (A.g 2), .int .i64 (A.g 3), .int .i64 (A.g 4), .int .i64 (A.l 0), .int .i64 (A.l 1), .int .i64 (A.l 2), .int .i64 (A.l 3), .int .i64 (A.l 4), .int .i64 (A.l 5), .int .i64 (A.l 6), .int .i64 (A.l 7), .int .i64 (A.l 8), .int .i64 (A.l 9), .int .i64 (A.l 10), .int .i64 (A.l 11), .int .i64 (A.l 12)] 37)) from Own.newAt (by simp)))
  rw [← hW]
  clear hW
  obtain ⟨P, eP⟩ : ∃ X, X = w.heap.size := ⟨_, rfl⟩
  rw [← eP] at HP ⊢
  have Pw : w.heap.size ≤ P := by omega
  clear eP
  have HB := Lib.hid hB0
  have AA_ := Lib.hid (AA.out.later hB0)
  clear AA
  have AA := AA_
  clear AA_
  clear hB0
  have oP := HP.out
  have P0 := oP.at 0 _ rfl
  have P1 := oP.at 1 _ rfl
  have P2 := oP.at 2 _ rfl
  have P3 := oP.at 3 _ rfl
  have Pl := oP.lt
  clear oP
  go_wp2_with (fail)
  clear P0 P1 P2 P3 Pl
  go_at_call 29
  refine (CON.out _ AA.out.m).mono ?_
  rintro e w1 ⟨rfl, hb⟩
  have HP_ := Lib.hid (HP.out.later hb)
  clear HP
  have HP := HP_
  clear HP_
  have AA_ := Lib.hid (AA.out.later hb)
  clear AA
  have AA := AA_
  clear AA_
  have HB_ := Lib.hid (Below.go HB.out hb)
  clear HB
  have HB := HB_
  clear HB_
  clear hb CON
  have oP := HP.out
  have P4 := oP.at 4 _ rfl
  have P5 := oP.at 5 _ rfl
  have Pl := oP.lt
  clear oP
  go_wp2_with (fail)
  clear P4 P5 Pl
  go_at_call 30
  refine (Rtex_any A.X _).mono ?_
  rintro e v0 ⟨rfl, hb⟩
  have HP_ := Lib.hid (HP.out.later hb)
  clear HP
  have HP := HP_
  clear HP_
  have AA_ := Lib.hid (AA.out.later hb)
  clear AA
  have AA := AA_
  clear AA_
  have HB_ := Lib.hid (Below.go HB.out hb)
  clear HB
  have HB := HB_
  clear HB_
  clear hb 
  rw [EB0.out]
  cases b0 with
  | true =>
    by_cases hz : z = 0
    · subst hz
      have HZ : Hid (chk2 0 false = 5) := Lib.hid rfl
      go_wp2_with (fail)
      go_ret
      exact ⟨rfl, HB.out⟩
    · have hd : (z != 0) = true := by simpa using hz
      have HZ : Hid (chk2 z false = z) := Lib.hid (if_neg hz)
      go_wp2_with (fail)
      go_ret
      exact ⟨by first | rw [HZ.out]; rfl | (simp [chk2, hz]), HB.out⟩
  | false =>
    have x1 := EB1.out
    have oP := HP.out
    have P6 := oP.at 6 _ rfl
    have P7 := oP.at 7 _ rfl
    have P8 := oP.at 8 _ rfl
    have P9 := oP.at 9 _ rfl
    have P10 := oP.at 10 _ rfl
    have Pl := oP.lt
    clear oP
    cases b1 with
    | false =>
      by_cases hz : z = 0
      · subst hz
        have HZ : Hid (chk2 0 false = 5) := Lib.hid rfl
        go_wp2_with (fail)
        go_ret
        exact ⟨rfl, HB.out⟩
      · have hd : (z != 0) = true := by simpa using hz
        have HZ : Hid (chk2 z false = z) := Lib.hid (if_neg hz)
        go_wp2_with (fail)
        go_ret
        exact ⟨by first | rw [HZ.out]; rfl | (simp [chk2, hz]), HB.out⟩
    | true =>
      have x2 := EB2.out
      have oP := HP.out
      have P11 := oP.at 11 _ rfl
      have P12 := oP.at 12 _ rfl
      have P13 := oP.at 13 _ rfl
      have P14 := oP.at 14 _ rfl
      have P15 := oP.at 15 _ rfl
      have P16 := oP.at 16 _ rfl
      have P17 := oP.at 17 _ rfl
      have P18 := oP.at 18 _ rfl
      have P19 := oP.at 19 _ rfl
      have P20 := oP.at 20 _ rfl
      have P21 := oP.at 21 _ rfl
      have P22 := oP.at 22 _ rfl
      have P23 := oP.at 23 _ rfl
      have Pl := oP.lt
      clear oP
      cases b2 with
      | false =>
        by_cases hz : z = 0
        · subst hz
          have HZ : Hid (chk2 0 false = 5) := Lib.hid rfl
          go_wp2_with (fail)
          go_ret
          exact ⟨rfl, HB.out⟩
        · have hd : (z != 0) = true := by simpa using hz
          have HZ : Hid (chk2 z false = z) := Lib.hid (if_neg hz)
          go_wp2_with (fail)
          go_ret
          exact ⟨by first | rw [HZ.out]; rfl | (simp [chk2, hz]), HB.out⟩
      | true =>
        by_cases hz : z = 0
        · subst hz
          have RL := Lib.hid (RM.out rfl)
          go_upto_region 20 with fail
          refine wp_region_held_drew (S := fun w' => Below v0.heap.size v0 w') (by kernel_rfl) (Below.refl _ _).drew (fun hb0_ => ?_)
          refine wpAnyH_take (i := 0) (v := .agg ([.int .i64 1, .slice A.M.qv A.M.nv A.M.cv, .slice A.M.qu A.M.nu A.M.cu, .slice A.M.qt A.M.nt A.M.ct, .int .i64 A.X.S, .slice A.X.q A.X.n A.X.c, .int .i64 (A.g 0), .int .i64 (A.g 1), .int .i64 (A.g 2), .int .i64 (A.g 3), .int .i64 (A.g 4), .int .i64 (A.l 0), .int .i64 (A.l 1), .int .i64 (A.l 2), .int .i64 (A.l 3), .int .i64 (A.l 4), .int .i64 (A.l 5), .int .i64 (A.l 6), .int .i64 (A.l 7), .int .i64 (A.l 8), .int .i64 (A.l 9), .int .i64 (A.l 10), .int .i64 (A.l 11), .int .i64 (A.l 12)]).toArray) rfl (by kernel_rfl) (by kernel_rfl) (by kernel_rfl) (fun _ _ _ h => h) (yieldsIf_load_mid (by rfl) 37 _ rfl P 0 rfl ([.int .i64 1, .slice A.M.qv A.M.nv A.M.cv, .slice A.M.qu A.M.nu A.M.cu, .slice A.M.qt A.M.nt A.M.ct, .int .i64 A.X.S, .slice A.X.q A.X.n A.X.c, .int .i64 (A.g 0), .int .i64 (A.g 1), .int .i64 (A.g 2), .int .i64 (A.g 3), .int .i64 (A.g 4), .int .i64 (A.l 0), .int .i64 (A.l 1), .int .i64 (A.l 2), .int .i64 (A.l 3), .int .i64 (A.l 4), .int .i64 (A.l 5), .int .i64 (A.l 6), .int .i64 (A.l 7), .int .i64 (A.l 8), .int .i64 (A.l 9), .int .i64 (A.l 10), .int .i64 (A.l 11), .int .i64 (A.l 12)]) _ (fun w h => (HP.out.later h).cell) Tryd.underlying37 rfl (by kernel_rfl)) (by assumption) ?_
          try simp only [Act.put, List.getElem_toArray, List.getElem_cons_zero, List.getElem_cons_succ, List.setIfInBounds_toArray, List.set_cons_zero, List.set_cons_succ]
          refine wpAnyH_take (i := 3) (v := ?_) rfl (by kernel_rfl) (by kernel_rfl) (by kernel_rfl) (fun _ _ _ h => h) (Or.inl ⟨by rfl, ?_⟩) (by assumption) ?_
          rotate_left
          · intro w' hS; go_simp; try (with_reducible rfl)
          try simp only [Act.put, List.getElem_toArray, List.getElem_cons_zero, List.getElem_cons_succ, List.setIfInBounds_toArray, List.set_cons_zero, List.set_cons_succ]
          refine wpAnyH_take (i := 4) (v := ?_) rfl (by kernel_rfl) (by kernel_rfl) (by kernel_rfl) (fun _ _ _ h => h) (Or.inl ⟨by rfl, ?_⟩) (by assumption) ?_
          rotate_left
          · intro w' hS; have q0 := (HP.out.later hS).at 0 _ rfl; have ql := (HP.out.later hS).lt; go_simp; try (with_reducible rfl)
          try simp only [Act.put, List.getElem_toArray, List.getElem_cons_zero, List.getElem_cons_succ, List.setIfInBounds_toArray, List.set_cons_zero, List.set_cons_succ]
          refine wpAnyH_ready (rs := [1]) (by kernel_rfl) (by simp) ?_
          refine AllReadyH.cons rfl (fun K hK => ?_) AllReadyH.nil
          go_simp
          go_at_call 33
          refine (CB.out _ (AA.out.later hb0_) (by first | rfl | trivial)).mono ?_
          rintro e u1 ⟨⟨v, rfl, hr⟩, h1⟩
          have bu1 := Below.go hb0_ h1
          clear h1
          obtain ⟨qq, cc, rfl, -, -, -⟩ := hr
          refine hK.out _ _ bu1 (fun _ => ?_)
          clear hK K
          try simp only [Act.put, List.getElem_toArray, List.getElem_cons_zero, List.getElem_cons_succ, List.setIfInBounds_toArray, List.set_cons_zero, List.set_cons_succ]
          refine wpAnyH_take (i := 2) (v := ?_) rfl (by kernel_rfl) (by kernel_rfl) (by kernel_rfl) (fun _ _ _ h => h) (Or.inl ⟨by rfl, ?_⟩) (by assumption) ?_
          rotate_left
          · intro w' hS; go_simp; try (with_reducible rfl)
          try simp only [Act.put, List.getElem_toArray, List.getElem_cons_zero, List.getElem_cons_succ, List.setIfInBounds_toArray, List.set_cons_zero, List.set_cons_succ]
          refine wpAnyH_ready (rs := [5]) (by kernel_rfl) (by simp) ?_
          refine AllReadyH.cons rfl (fun K hK => ?_) AllReadyH.nil
          go_simp
          go_at_call 34
          refine (RCapB 1 _).mono ?_
          rintro e u2 ⟨rfl, h1⟩
          have bu2 := Below.go bu1 h1
          clear h1
          refine hK.out _ _ bu2 (fun _ => ?_)
          clear hK K
          try simp only [Act.put, List.getElem_toArray, List.getElem_cons_zero, List.getElem_cons_succ, List.setIfInBounds_toArray, List.set_cons_zero, List.set_cons_succ]
          rw [show capF 1 = 2048 from rfl]
          have d9 : decide ((2048 : Int) < (len : Int)) = false := decide_eq_false (by have := RL.out; omega)
          refine wpAnyH_take (i := 6) (v := .bool false) rfl (by kernel_rfl) (by kernel_rfl) (by kernel_rfl) (fun _ _ _ h => h) (Or.inl ⟨by rfl, fun w' hS => ?_⟩) (by assumption) ?_
          · go_simp
          try simp only [Act.put, List.getElem_toArray, List.getElem_cons_zero, List.getElem_cons_succ, List.setIfInBounds_toArray, List.set_cons_zero, List.set_cons_succ]
          refine wpAnyH_done (by kernel_rfl) ?_ _
          go_wp2_with (fail)
          go_ret
          exact ⟨rfl, Below.go HB.out bu2⟩
        · have hd : (z != 0) = true := by simpa using hz
          have HZ : Hid (chk2 z true = z) := Lib.hid (if_neg hz)
          go_wp2_with (fail)
          go_ret
          exact ⟨by first | rw [HZ.out]; rfl | (simp [chk2, hz]), HB.out⟩
set_option maxHeartbeats 16000000 in
theorem RACheck_2 (A : Ast) (hF : FewA A) (w : World) (hA : AstAt A w) : Calls Tryd.prog 14 #[(.agg #[.int .i64 2, .slice A.M.qv A.M.nv A.M.cv, .slice A.M.qu A.M.nu A.M.cu, .slice A.M.qt A.M.nt A.M.ct, .int .i64 A.X.S, .slice A.X.q A.X.n A.X.c, .int .i64 (A.g 0), .int .i64 (A.g 1), .int .i64 (A.g 2), .int .i64 (A.g 3), .int .i64 (A.g 4), .int .i64 (A.l 0), .int .i64 (A.l 1), .int .i64 (A.l 2), .int .i64 (A.l 3), .int .i64 (A.l 4), .int .i64 (A.l 5), .int .i64 (A.l 6), .int .i64 (A.l 7), .int .i64 (A.l 8), .int .i64 (A.l 9), .int .i64 (A.l 10), .int .i64 (A.l 11), .int .i64 (A.l 12)])] w fun e w' => e = .returned (.int .i64 (chk2 (chkT A.X.S A.X.n A.X.f) (sameA ⟨2, A.M, nilX, A.g, A.l⟩ (kinA 2)))) ∧ Below w.heap.size w w' := by
  have AA := Lib.hid hA; have FF := Lib.hid hF
  have CON := Lib.hid (tRCheck_any A.X)
  have RM : Hid (chkT A.X.S A.X.n A.X.f = 0 → 1 + A.X.n * 3 ≤ 1024) := Lib.hid (fun h => room_2 h)
  have CB := Lib.hid (fun (w : World) (h : AstAt A w) (hz : chkT A.X.S A.X.n A.X.f = 0) => show Calls Tryd.prog 33 #[(.agg #[.int .i64 2, .slice A.M.qv A.M.nv A.M.cv, .slice A.M.qu A.M.nu A.M.cu, .slice A.M.qt A.M.nt A.M.ct, .int .i64 A.X.S, .slice A.X.q A.X.n A.X.c, .int .i64 (A.g 0), .int .i64 (A.g 1), .int .i64 (A.g 2), .int .i64 (A.g 3), .int .i64 (A.g 4), .int .i64 (A.l 0), .int .i64 (A.l 1), .int .i64 (A.l 2), .int .i64 (A.l 3), .int .i64 (A.l 4), .int .i64 (A.l 5), .int .i64 (A.l 6), .int .i64 (A.l 7), .int .i64 (A.l 8), .int .i64 (A.l 9), .int .i64 (A.l 10), .int .i64 (A.l 11), .int .i64 (A.l 12)])] w fun e w' => (∃ v, e = .returned v ∧ RowR w' v (1 + A.X.n * 3) (encT A.X.S A.X.f)) ∧ Below w.heap.size w w' by
    have := Rbytes_2 A w h
    rw [hz] at this
    exact this)
  rw [oth_2]
  obtain ⟨z, ez⟩ : ∃ z, chkT A.X.S A.X.n A.X.f = z := ⟨_, rfl⟩
  rw [ez] at CON RM CB ⊢
  obtain ⟨b0, eb0⟩ : ∃ b, someM A.M = b := ⟨_, rfl⟩
  have EB0 := Lib.hid eb0
  rw [eb0]
  obtain ⟨b1, eb1⟩ : ∃ b, matB A.g (fun _ => 0) = b := ⟨_, rfl⟩
  have EB1 := Lib.hid eb1
  rw [eb1]
  obtain ⟨b2, eb2⟩ : ∃ b, lgtB A.l (fun _ => 0) = b := ⟨_, rfl⟩
  have EB2 := Lib.hid eb2
  rw [eb2]
  clear hA hF ez eb0 eb1 eb2
  generalize 1 + A.X.n * 3 = len at *
  go_enter Tryd.func14, Tryd.ntmps14
  go_upto_region 3 with fail
  obtain ⟨W0, hW⟩ : ∃ W0, W0 = (w.alloc (.cells #[.int .i64 2, .slice A.M.qv A.M.nv A.M.cv, .slice A.M.qu A.M.nu A.M.cu, .slice A.M.qt A.M.nt A.M.ct, .int .i64 A.X.S, .slice A.X.q A.X.n A.X.c, .int .i64 (A.g 0), .int .i64 (A.g 1), .int .i64 (A.g 2), .int .i64 (A.g 3), .int .i64 (A.g 4), .int .i64 (A.l 0), .int .i64 (A.l 1), .int .i64 (A.l 2), .int .i64 (A.l 3), .int .i64 (A.l 4), .int .i64 (A.l 5), .int .i64 (A.l 6), .int .i64 (A.l 7), .int .i64 (A.l 8), .int .i64 (A.l 9), .int .i64 (A.l 10), .int .i64 (A.l 11), .int .i64 (A.l 12)] 37)) := ⟨_, rfl⟩
  have hB0 : Below w.heap.size w W0 := hW ▸ (Below.al (Below.refl _ _))
  have HP : Hid (Own w.heap.size ([.int .i64 2, .slice A.M.qv A.M.nv A.M.cv, .slice A.M.qu A.M.nu A.M.cu, .slice A.M.qt A.M.nt A.M.ct, .int .i64 A.X.S, .slice A.X.q A.X.n A.X.c, .int .i64 (A.g 0), .int .i64 (A.g 1), .int .i64 (A.g 2), .int .i64 (A.g 3), .int .i64 (A.g 4), .int .i64 (A.l 0), .int .i64 (A.l 1), .int .i64 (A.l 2), .int .i64 (A.l 3), .int .i64 (A.l 4), .int .i64 (A.l 5), .int .i64 (A.l 6), .int .i64 (A.l 7), .int .i64 (A.l 8), .int .i64 (A.l 9), .int .i64 (A.l 10), .int .i64 (A.l 11), .int .i64 (A.l 12)]) W0) := Lib.hid (hW ▸ (show Own w.heap.size ([.int .i64 2, .slice A.M.qv A.M.nv A.M.cv, .slice A.M.qu A.M.nu A.M.cu, .slice A.M.qt A.M.nt A.M.ct, .int .i64 A.X.S, .slice A.X.q A.X.n A.X.c, .int .i64 (A.g 0), .int .i64 (A.g 1), .int .i64 (A.g 2), .int .i64 (A.g 3), .int .i64 (A.g 4), .int .i64 (A.l 0), .int .i64 (A.l 1), .int .i64 (A.l 2), .int .i64 (A.l 3), .int .i64 (A.l 4), .int .i64 (A.l 5), .int .i64 (A.l 6), .int .i64 (A.l 7), .int .i64 (A.l 8), .int .i64 (A.l 9), .int .i64 (A.l 10), .int .i64 (A.l 11), .int .i64 (A.l 12)]) (w.alloc (.cells #[.int .i64 2, .slice A.M.qv A.M.nv A.M.cv, .slice A.M.qu A.M.nu A.M.cu, .slice A.M.qt A.M.nt A.M.ct, .int .i64 A.X.S, .slice A.X.q A.X.n A.X.c, .int .i64 (A.g 0), .int .i64 (A.g 1), .int .i64 (A.g 2), .int .i64 (A.g 3), .int .i64 (A.g 4), .int .i64 (A.l 0), .int .i64 (A.l 1), .int .i64 (A.l 2), .int .i64 (A.l 3), .int .i64 (A.l 4), .int .i64 (A.l 5), .int .i64 (A.l 6), .int .i64 (A.l 7), .int .i64 (A.l 8), .int .i64 (A.l 9), .int .i64 (A.l 10), .int .i64 (A.l 11), .int .i64 (A.l 12)] 37)) from Own.newAt (by simp)))
  rw [← hW]
  clear hW
  obtain ⟨P, eP⟩ : ∃ X, X = w.heap.size := ⟨_, rfl⟩
  rw [← eP] at HP ⊢
  have Pw : w.heap.size ≤ P := by omega
  clear eP
  have HB := Lib.hid hB0
  have AA_ := Lib.hid (AA.out.later hB0)
  clear AA
  have AA := AA_
  clear AA_
  clear hB0
  have oP := HP.out
  have P0 := oP.at 0 _ rfl
  have P4 := oP.at 4 _ rfl
  have P5 := oP.at 5 _ rfl
  have Pl := oP.lt
  clear oP
  go_wp2_with (fail)
  clear P0 P4 P5 Pl
  go_at_call 31
  refine (CON.out _ AA.out.x).mono ?_
  rintro e w1 ⟨rfl, hb⟩
  have HP_ := Lib.hid (HP.out.later hb)
  clear HP
  have HP := HP_
  clear HP_
  have AA_ := Lib.hid (AA.out.later hb)
  clear AA
  have AA := AA_
  clear AA_
  have HB_ := Lib.hid (Below.go HB.out hb)
  clear HB
  have HB := HB_
  clear HB_
  clear hb CON
  have oP := HP.out
  have P1 := oP.at 1 _ rfl
  have P2 := oP.at 2 _ rfl
  have P3 := oP.at 3 _ rfl
  have Pl := oP.lt
  clear oP
  go_wp2_with (fail)
  clear P1 P2 P3 Pl
  go_at_call 32
  refine (Rmesh_any A.M _ ⟨FF.out.v, FF.out.u, FF.out.t⟩).mono ?_
  rintro e v0 ⟨rfl, hb⟩
  have HP_ := Lib.hid (HP.out.later hb)
  clear HP
  have HP := HP_
  clear HP_
  have AA_ := Lib.hid (AA.out.later hb)
  clear AA
  have AA := AA_
  clear AA_
  have HB_ := Lib.hid (Below.go HB.out hb)
  clear HB
  have HB := HB_
  clear HB_
  clear hb 
  rw [EB0.out]
  cases b0 with
  | true =>
    by_cases hz : z = 0
    · subst hz
      have HZ : Hid (chk2 0 false = 5) := Lib.hid rfl
      go_wp2_with (fail)
      go_ret
      exact ⟨rfl, HB.out⟩
    · have hd : (z != 0) = true := by simpa using hz
      have HZ : Hid (chk2 z false = z) := Lib.hid (if_neg hz)
      go_wp2_with (fail)
      go_ret
      exact ⟨by first | rw [HZ.out]; rfl | (simp [chk2, hz]), HB.out⟩
  | false =>
    have x1 := EB1.out
    have oP := HP.out
    have P6 := oP.at 6 _ rfl
    have P7 := oP.at 7 _ rfl
    have P8 := oP.at 8 _ rfl
    have P9 := oP.at 9 _ rfl
    have P10 := oP.at 10 _ rfl
    have Pl := oP.lt
    clear oP
    cases b1 with
    | false =>
      by_cases hz : z = 0
      · subst hz
        have HZ : Hid (chk2 0 false = 5) := Lib.hid rfl
        go_wp2_with (fail)
        go_ret
        exact ⟨rfl, HB.out⟩
      · have hd : (z != 0) = true := by simpa using hz
        have HZ : Hid (chk2 z false = z) := Lib.hid (if_neg hz)
        go_wp2_with (fail)
        go_ret
        exact ⟨by first | rw [HZ.out]; rfl | (simp [chk2, hz]), HB.out⟩
    | true =>
      have x2 := EB2.out
      have oP := HP.out
      have P11 := oP.at 11 _ rfl
      have P12 := oP.at 12 _ rfl
      have P13 := oP.at 13 _ rfl
      have P14 := oP.at 14 _ rfl
      have P15 := oP.at 15 _ rfl
      have P16 := oP.at 16 _ rfl
      have P17 := oP.at 17 _ rfl
      have P18 := oP.at 18 _ rfl
      have P19 := oP.at 19 _ rfl
      have P20 := oP.at 20 _ rfl
      have P21 := oP.at 21 _ rfl
      have P22 := oP.at 22 _ rfl
      have P23 := oP.at 23 _ rfl
      have Pl := oP.lt
      clear oP
      cases b2 with
      | false =>
        by_cases hz : z = 0
        · subst hz
          have HZ : Hid (chk2 0 false = 5) := Lib.hid rfl
          go_wp2_with (fail)
          go_ret
          exact ⟨rfl, HB.out⟩
        · have hd : (z != 0) = true := by simpa using hz
          have HZ : Hid (chk2 z false = z) := Lib.hid (if_neg hz)
          go_wp2_with (fail)
          go_ret
          exact ⟨by first | rw [HZ.out]; rfl | (simp [chk2, hz]), HB.out⟩
      | true =>
        by_cases hz : z = 0
        · subst hz
          have RL := Lib.hid (RM.out rfl)
          go_upto_region 20 with fail
          refine wp_region_held_drew (S := fun w' => Below v0.heap.size v0 w') (by kernel_rfl) (Below.refl _ _).drew (fun hb0_ => ?_)
          refine wpAnyH_take (i := 0) (v := .agg ([.int .i64 2, .slice A.M.qv A.M.nv A.M.cv, .slice A.M.qu A.M.nu A.M.cu, .slice A.M.qt A.M.nt A.M.ct, .int .i64 A.X.S, .slice A.X.q A.X.n A.X.c, .int .i64 (A.g 0), .int .i64 (A.g 1), .int .i64 (A.g 2), .int .i64 (A.g 3), .int .i64 (A.g 4), .int .i64 (A.l 0), .int .i64 (A.l 1), .int .i64 (A.l 2), .int .i64 (A.l 3), .int .i64 (A.l 4), .int .i64 (A.l 5), .int .i64 (A.l 6), .int .i64 (A.l 7), .int .i64 (A.l 8), .int .i64 (A.l 9), .int .i64 (A.l 10), .int .i64 (A.l 11), .int .i64 (A.l 12)]).toArray) rfl (by kernel_rfl) (by kernel_rfl) (by kernel_rfl) (fun _ _ _ h => h) (yieldsIf_load_mid (by rfl) 37 _ rfl P 0 rfl ([.int .i64 2, .slice A.M.qv A.M.nv A.M.cv, .slice A.M.qu A.M.nu A.M.cu, .slice A.M.qt A.M.nt A.M.ct, .int .i64 A.X.S, .slice A.X.q A.X.n A.X.c, .int .i64 (A.g 0), .int .i64 (A.g 1), .int .i64 (A.g 2), .int .i64 (A.g 3), .int .i64 (A.g 4), .int .i64 (A.l 0), .int .i64 (A.l 1), .int .i64 (A.l 2), .int .i64 (A.l 3), .int .i64 (A.l 4), .int .i64 (A.l 5), .int .i64 (A.l 6), .int .i64 (A.l 7), .int .i64 (A.l 8), .int .i64 (A.l 9), .int .i64 (A.l 10), .int .i64 (A.l 11), .int .i64 (A.l 12)]) _ (fun w h => (HP.out.later h).cell) Tryd.underlying37 rfl (by kernel_rfl)) (by assumption) ?_
          try simp only [Act.put, List.getElem_toArray, List.getElem_cons_zero, List.getElem_cons_succ, List.setIfInBounds_toArray, List.set_cons_zero, List.set_cons_succ]
          refine wpAnyH_take (i := 3) (v := ?_) rfl (by kernel_rfl) (by kernel_rfl) (by kernel_rfl) (fun _ _ _ h => h) (Or.inl ⟨by rfl, ?_⟩) (by assumption) ?_
          rotate_left
          · intro w' hS; go_simp; try (with_reducible rfl)
          try simp only [Act.put, List.getElem_toArray, List.getElem_cons_zero, List.getElem_cons_succ, List.setIfInBounds_toArray, List.set_cons_zero, List.set_cons_succ]
          refine wpAnyH_take (i := 4) (v := ?_) rfl (by kernel_rfl) (by kernel_rfl) (by kernel_rfl) (fun _ _ _ h => h) (Or.inl ⟨by rfl, ?_⟩) (by assumption) ?_
          rotate_left
          · intro w' hS; have q0 := (HP.out.later hS).at 0 _ rfl; have ql := (HP.out.later hS).lt; go_simp; try (with_reducible rfl)
          try simp only [Act.put, List.getElem_toArray, List.getElem_cons_zero, List.getElem_cons_succ, List.setIfInBounds_toArray, List.set_cons_zero, List.set_cons_succ]
          refine wpAnyH_ready (rs := [1]) (by kernel_rfl) (by simp) ?_
          refine AllReadyH.cons rfl (fun K hK => ?_) AllReadyH.nil
          go_simp
          go_at_call 33
          refine (CB.out _ (AA.out.later hb0_) (by first | rfl | trivial)).mono ?_
          rintro e u1 ⟨⟨v, rfl, hr⟩, h1⟩
          have bu1 := Below.go hb0_ h1
          clear h1
          obtain ⟨qq, cc, rfl, -, -, -⟩ := hr
          refine hK.out _ _ bu1 (fun _ => ?_)
          clear hK K
          try simp only [Act.put, List.getElem_toArray, List.getElem_cons_zero, List.getElem_cons_succ, List.setIfInBounds_toArray, List.set_cons_zero, List.set_cons_succ]
          refine wpAnyH_take (i := 2) (v := ?_) rfl (by kernel_rfl) (by kernel_rfl) (by kernel_rfl) (fun _ _ _ h => h) (Or.inl ⟨by rfl, ?_⟩) (by assumption) ?_
          rotate_left
          · intro w' hS; go_simp; try (with_reducible rfl)
          try simp only [Act.put, List.getElem_toArray, List.getElem_cons_zero, List.getElem_cons_succ, List.setIfInBounds_toArray, List.set_cons_zero, List.set_cons_succ]
          refine wpAnyH_ready (rs := [5]) (by kernel_rfl) (by simp) ?_
          refine AllReadyH.cons rfl (fun K hK => ?_) AllReadyH.nil
          go_simp
          go_at_call 34
          refine (RCapB 2 _).mono ?_
          rintro e u2 ⟨rfl, h1⟩
          have bu2 := Below.go bu1 h1
          clear h1
          refine hK.out _ _ bu2 (fun _ => ?_)
          clear hK K
          try simp only [Act.put, List.getElem_toArray, List.getElem_cons_zero, List.getElem_cons_succ, List.setIfInBounds_toArray, List.set_cons_zero, List.set_cons_succ]
          rw [show capF 2 = 1024 from rfl]
          have d9 : decide ((1024 : Int) < (len : Int)) = false := decide_eq_false (by have := RL.out; omega)
          refine wpAnyH_take (i := 6) (v := .bool false) rfl (by kernel_rfl) (by kernel_rfl) (by kernel_rfl) (fun _ _ _ h => h) (Or.inl ⟨by rfl, fun w' hS => ?_⟩) (by assumption) ?_
          · go_simp
          try simp only [Act.put, List.getElem_toArray, List.getElem_cons_zero, List.getElem_cons_succ, List.setIfInBounds_toArray, List.set_cons_zero, List.set_cons_succ]
          refine wpAnyH_done (by kernel_rfl) ?_ _
          go_wp2_with (fail)
          go_ret
          exact ⟨rfl, Below.go HB.out bu2⟩
        · have hd : (z != 0) = true := by simpa using hz
          have HZ : Hid (chk2 z true = z) := Lib.hid (if_neg hz)
          go_wp2_with (fail)
          go_ret
          exact ⟨by first | rw [HZ.out]; rfl | (simp [chk2, hz]), HB.out⟩
set_option maxHeartbeats 16000000 in
theorem RACheck_3 (A : Ast) (hF : FewA A) (w : World) (hA : AstAt A w) : Calls Tryd.prog 14 #[(.agg #[.int .i64 3, .slice A.M.qv A.M.nv A.M.cv, .slice A.M.qu A.M.nu A.M.cu, .slice A.M.qt A.M.nt A.M.ct, .int .i64 A.X.S, .slice A.X.q A.X.n A.X.c, .int .i64 (A.g 0), .int .i64 (A.g 1), .int .i64 (A.g 2), .int .i64 (A.g 3), .int .i64 (A.g 4), .int .i64 (A.l 0), .int .i64 (A.l 1), .int .i64 (A.l 2), .int .i64 (A.l 3), .int .i64 (A.l 4), .int .i64 (A.l 5), .int .i64 (A.l 6), .int .i64 (A.l 7), .int .i64 (A.l 8), .int .i64 (A.l 9), .int .i64 (A.l 10), .int .i64 (A.l 11), .int .i64 (A.l 12)])] w fun e w' => e = .returned (.int .i64 (chk2 (chkG A.g) (sameA ⟨3, A.M, A.X, fun _ => 0, A.l⟩ (kinA 3)))) ∧ Below w.heap.size w w' := by
  have AA := Lib.hid hA; have FF := Lib.hid hF
  have CON := Lib.hid (RMaterial_any A.g)
  have RM : Hid (chkG A.g = 0 → 9 ≤ 64) := Lib.hid (fun _ => by decide)
  have CB := Lib.hid (fun (w : World) (h : AstAt A w) (hz : chkG A.g = 0) => Rbytes_3 A hz w)
  rw [oth_3]
  obtain ⟨z, ez⟩ : ∃ z, chkG A.g = z := ⟨_, rfl⟩
  rw [ez] at CON RM CB ⊢
  obtain ⟨b0, eb0⟩ : ∃ b, someM A.M = b := ⟨_, rfl⟩
  have EB0 := Lib.hid eb0
  rw [eb0]
  obtain ⟨b1, eb1⟩ : ∃ b, someX A.X = b := ⟨_, rfl⟩
  have EB1 := Lib.hid eb1
  rw [eb1]
  obtain ⟨b2, eb2⟩ : ∃ b, lgtB A.l (fun _ => 0) = b := ⟨_, rfl⟩
  have EB2 := Lib.hid eb2
  rw [eb2]
  clear hA hF ez eb0 eb1 eb2
  go_enter Tryd.func14, Tryd.ntmps14
  go_upto_region 3 with fail
  obtain ⟨W0, hW⟩ : ∃ W0, W0 = (w.alloc (.cells #[.int .i64 3, .slice A.M.qv A.M.nv A.M.cv, .slice A.M.qu A.M.nu A.M.cu, .slice A.M.qt A.M.nt A.M.ct, .int .i64 A.X.S, .slice A.X.q A.X.n A.X.c, .int .i64 (A.g 0), .int .i64 (A.g 1), .int .i64 (A.g 2), .int .i64 (A.g 3), .int .i64 (A.g 4), .int .i64 (A.l 0), .int .i64 (A.l 1), .int .i64 (A.l 2), .int .i64 (A.l 3), .int .i64 (A.l 4), .int .i64 (A.l 5), .int .i64 (A.l 6), .int .i64 (A.l 7), .int .i64 (A.l 8), .int .i64 (A.l 9), .int .i64 (A.l 10), .int .i64 (A.l 11), .int .i64 (A.l 12)] 37)) := ⟨_, rfl⟩
  have hB0 : Below w.heap.size w W0 := hW ▸ (Below.al (Below.refl _ _))
  have HP : Hid (Own w.heap.size ([.int .i64 3, .slice A.M.qv A.M.nv A.M.cv, .slice A.M.qu A.M.nu A.M.cu, .slice A.M.qt A.M.nt A.M.ct, .int .i64 A.X.S, .slice A.X.q A.X.n A.X.c, .int .i64 (A.g 0), .int .i64 (A.g 1), .int .i64 (A.g 2), .int .i64 (A.g 3), .int .i64 (A.g 4), .int .i64 (A.l 0), .int .i64 (A.l 1), .int .i64 (A.l 2), .int .i64 (A.l 3), .int .i64 (A.l 4), .int .i64 (A.l 5), .int .i64 (A.l 6), .int .i64 (A.l 7), .int .i64 (A.l 8), .int .i64 (A.l 9), .int .i64 (A.l 10), .int .i64 (A.l 11), .int .i64 (A.l 12)]) W0) := Lib.hid (hW ▸ (show Own w.heap.size ([.int .i64 3, .slice A.M.qv A.M.nv A.M.cv, .slice A.M.qu A.M.nu A.M.cu, .slice A.M.qt A.M.nt A.M.ct, .int .i64 A.X.S, .slice A.X.q A.X.n A.X.c, .int .i64 (A.g 0), .int .i64 (A.g 1), .int .i64 (A.g 2), .int .i64 (A.g 3), .int .i64 (A.g 4), .int .i64 (A.l 0), .int .i64 (A.l 1), .int .i64 (A.l 2), .int .i64 (A.l 3), .int .i64 (A.l 4), .int .i64 (A.l 5), .int .i64 (A.l 6), .int .i64 (A.l 7), .int .i64 (A.l 8), .int .i64 (A.l 9), .int .i64 (A.l 10), .int .i64 (A.l 11), .int .i64 (A.l 12)]) (w.alloc (.cells #[.int .i64 3, .slice A.M.qv A.M.nv A.M.cv, .slice A.M.qu A.M.nu A.M.cu, .slice A.M.qt A.M.nt A.M.ct, .int .i64 A.X.S, .slice A.X.q A.X.n A.X.c, .int .i64 (A.g 0), .int .i64 (A.g 1), .int .i64 (A.g 2), .int .i64 (A.g 3), .int .i64 (A.g 4), .int .i64 (A.l 0), .int .i64 (A.l 1), .int .i64 (A.l 2), .int .i64 (A.l 3), .int .i64 (A.l 4), .int .i64 (A.l 5), .int .i64 (A.l 6), .int .i64 (A.l 7), .int .i64 (A.l 8), .int .i64 (A.l 9), .int .i64 (A.l 10), .int .i64 (A.l 11), .int .i64 (A.l 12)] 37)) from Own.newAt (by simp)))
  rw [← hW]
  clear hW
  obtain ⟨P, eP⟩ : ∃ X, X = w.heap.size := ⟨_, rfl⟩
  rw [← eP] at HP ⊢
  have Pw : w.heap.size ≤ P := by omega
  clear eP
  have HB := Lib.hid hB0
  have AA_ := Lib.hid (AA.out.later hB0)
  clear AA
  have AA := AA_
  clear AA_
  clear hB0
  have oP := HP.out
  have P0 := oP.at 0 _ rfl
  have P6 := oP.at 6 _ rfl
  have P7 := oP.at 7 _ rfl
  have P8 := oP.at 8 _ rfl
  have P9 := oP.at 9 _ rfl
  have P10 := oP.at 10 _ rfl
  have Pl := oP.lt
  clear oP
  go_wp2_with (fail)
  clear P0 P6 P7 P8 P9 P10 Pl
  go_at_call 10
  refine (CON.out _ ).mono ?_
  rintro e w1 ⟨rfl, hb⟩
  have HP_ := Lib.hid (HP.out.later hb)
  clear HP
  have HP := HP_
  clear HP_
  have AA_ := Lib.hid (AA.out.later hb)
  clear AA
  have AA := AA_
  clear AA_
  have HB_ := Lib.hid (Below.go HB.out hb)
  clear HB
  have HB := HB_
  clear HB_
  clear hb CON
  have oP := HP.out
  have P1 := oP.at 1 _ rfl
  have P2 := oP.at 2 _ rfl
  have P3 := oP.at 3 _ rfl
  have Pl := oP.lt
  clear oP
  go_wp2_with (fail)
  clear P1 P2 P3 Pl
  go_at_call 32
  refine (Rmesh_any A.M _ ⟨FF.out.v, FF.out.u, FF.out.t⟩).mono ?_
  rintro e v0 ⟨rfl, hb⟩
  have HP_ := Lib.hid (HP.out.later hb)
  clear HP
  have HP := HP_
  clear HP_
  have AA_ := Lib.hid (AA.out.later hb)
  clear AA
  have AA := AA_
  clear AA_
  have HB_ := Lib.hid (Below.go HB.out hb)
  clear HB
  have HB := HB_
  clear HB_
  clear hb 
  rw [EB0.out]
  cases b0 with
  | true =>
    by_cases hz : z = 0
    · subst hz
      have HZ : Hid (chk2 0 false = 5) := Lib.hid rfl
      go_wp2_with (fail)
      go_ret
      exact ⟨rfl, HB.out⟩
    · have hd : (z != 0) = true := by simpa using hz
      have HZ : Hid (chk2 z false = z) := Lib.hid (if_neg hz)
      go_wp2_with (fail)
      go_ret
      exact ⟨by first | rw [HZ.out]; rfl | (simp [chk2, hz]), HB.out⟩
  | false =>
    have oP := HP.out
    have P4 := oP.at 4 _ rfl
    have P5 := oP.at 5 _ rfl
    have Pl := oP.lt
    clear oP
    go_wp2_with (fail)
    clear P4 P5 Pl
    go_at_call 30
    refine (Rtex_any A.X _).mono ?_
    rintro e v1 ⟨rfl, hb⟩
    have HP_ := Lib.hid (HP.out.later hb)
    clear HP
    have HP := HP_
    clear HP_
    have AA_ := Lib.hid (AA.out.later hb)
    clear AA
    have AA := AA_
    clear AA_
    have HB_ := Lib.hid (Below.go HB.out hb)
    clear HB
    have HB := HB_
    clear HB_
    clear hb 
    rw [EB1.out]
    cases b1 with
    | true =>
      by_cases hz : z = 0
      · subst hz
        have HZ : Hid (chk2 0 false = 5) := Lib.hid rfl
        go_wp2_with (fail)
        go_ret
        exact ⟨rfl, HB.out⟩
      · have hd : (z != 0) = true := by simpa using hz
        have HZ : Hid (chk2 z false = z) := Lib.hid (if_neg hz)
        go_wp2_with (fail)
        go_ret
        exact ⟨by first | rw [HZ.out]; rfl | (simp [chk2, hz]), HB.out⟩
    | false =>
      have x2 := EB2.out
      have oP := HP.out
      have P11 := oP.at 11 _ rfl
      have P12 := oP.at 12 _ rfl
      have P13 := oP.at 13 _ rfl
      have P14 := oP.at 14 _ rfl
      have P15 := oP.at 15 _ rfl
      have P16 := oP.at 16 _ rfl
      have P17 := oP.at 17 _ rfl
      have P18 := oP.at 18 _ rfl
      have P19 := oP.at 19 _ rfl
      have P20 := oP.at 20 _ rfl
      have P21 := oP.at 21 _ rfl
      have P22 := oP.at 22 _ rfl
      have P23 := oP.at 23 _ rfl
      have Pl := oP.lt
      clear oP
      cases b2 with
      | false =>
        by_cases hz : z = 0
        · subst hz
          have HZ : Hid (chk2 0 false = 5) := Lib.hid rfl
          go_wp2_with (fail)
          go_ret
          exact ⟨rfl, HB.out⟩
        · have hd : (z != 0) = true := by simpa using hz
          have HZ : Hid (chk2 z false = z) := Lib.hid (if_neg hz)
          go_wp2_with (fail)
          go_ret
          exact ⟨by first | rw [HZ.out]; rfl | (simp [chk2, hz]), HB.out⟩
      | true =>
        by_cases hz : z = 0
        · subst hz
          have RL := Lib.hid (RM.out rfl)
          go_upto_region 20 with fail
          refine wp_region_held_drew (S := fun w' => Below v1.heap.size v1 w') (by kernel_rfl) (Below.refl _ _).drew (fun hb0_ => ?_)
          refine wpAnyH_take (i := 0) (v := .agg ([.int .i64 3, .slice A.M.qv A.M.nv A.M.cv, .slice A.M.qu A.M.nu A.M.cu, .slice A.M.qt A.M.nt A.M.ct, .int .i64 A.X.S, .slice A.X.q A.X.n A.X.c, .int .i64 (A.g 0), .int .i64 (A.g 1), .int .i64 (A.g 2), .int .i64 (A.g 3), .int .i64 (A.g 4), .int .i64 (A.l 0), .int .i64 (A.l 1), .int .i64 (A.l 2), .int .i64 (A.l 3), .int .i64 (A.l 4), .int .i64 (A.l 5), .int .i64 (A.l 6), .int .i64 (A.l 7), .int .i64 (A.l 8), .int .i64 (A.l 9), .int .i64 (A.l 10), .int .i64 (A.l 11), .int .i64 (A.l 12)]).toArray) rfl (by kernel_rfl) (by kernel_rfl) (by kernel_rfl) (fun _ _ _ h => h) (yieldsIf_load_mid (by rfl) 37 _ rfl P 0 rfl ([.int .i64 3, .slice A.M.qv A.M.nv A.M.cv, .slice A.M.qu A.M.nu A.M.cu, .slice A.M.qt A.M.nt A.M.ct, .int .i64 A.X.S, .slice A.X.q A.X.n A.X.c, .int .i64 (A.g 0), .int .i64 (A.g 1), .int .i64 (A.g 2), .int .i64 (A.g 3), .int .i64 (A.g 4), .int .i64 (A.l 0), .int .i64 (A.l 1), .int .i64 (A.l 2), .int .i64 (A.l 3), .int .i64 (A.l 4), .int .i64 (A.l 5), .int .i64 (A.l 6), .int .i64 (A.l 7), .int .i64 (A.l 8), .int .i64 (A.l 9), .int .i64 (A.l 10), .int .i64 (A.l 11), .int .i64 (A.l 12)]) _ (fun w h => (HP.out.later h).cell) Tryd.underlying37 rfl (by kernel_rfl)) (by assumption) ?_
          try simp only [Act.put, List.getElem_toArray, List.getElem_cons_zero, List.getElem_cons_succ, List.setIfInBounds_toArray, List.set_cons_zero, List.set_cons_succ]
          refine wpAnyH_take (i := 3) (v := ?_) rfl (by kernel_rfl) (by kernel_rfl) (by kernel_rfl) (fun _ _ _ h => h) (Or.inl ⟨by rfl, ?_⟩) (by assumption) ?_
          rotate_left
          · intro w' hS; go_simp; try (with_reducible rfl)
          try simp only [Act.put, List.getElem_toArray, List.getElem_cons_zero, List.getElem_cons_succ, List.setIfInBounds_toArray, List.set_cons_zero, List.set_cons_succ]
          refine wpAnyH_take (i := 4) (v := ?_) rfl (by kernel_rfl) (by kernel_rfl) (by kernel_rfl) (fun _ _ _ h => h) (Or.inl ⟨by rfl, ?_⟩) (by assumption) ?_
          rotate_left
          · intro w' hS; have q0 := (HP.out.later hS).at 0 _ rfl; have ql := (HP.out.later hS).lt; go_simp; try (with_reducible rfl)
          try simp only [Act.put, List.getElem_toArray, List.getElem_cons_zero, List.getElem_cons_succ, List.setIfInBounds_toArray, List.set_cons_zero, List.set_cons_succ]
          refine wpAnyH_ready (rs := [1]) (by kernel_rfl) (by simp) ?_
          refine AllReadyH.cons rfl (fun K hK => ?_) AllReadyH.nil
          go_simp
          go_at_call 33
          refine (CB.out _ (AA.out.later hb0_) (by first | rfl | trivial)).mono ?_
          rintro e u1 ⟨⟨v, rfl, hr⟩, h1⟩
          have bu1 := Below.go hb0_ h1
          clear h1
          obtain ⟨qq, cc, rfl, -, -, -⟩ := hr
          refine hK.out _ _ bu1 (fun _ => ?_)
          clear hK K
          try simp only [Act.put, List.getElem_toArray, List.getElem_cons_zero, List.getElem_cons_succ, List.setIfInBounds_toArray, List.set_cons_zero, List.set_cons_succ]
          refine wpAnyH_take (i := 2) (v := ?_) rfl (by kernel_rfl) (by kernel_rfl) (by kernel_rfl) (fun _ _ _ h => h) (Or.inl ⟨by rfl, ?_⟩) (by assumption) ?_
          rotate_left
          · intro w' hS; go_simp; try (with_reducible rfl)
          try simp only [Act.put, List.getElem_toArray, List.getElem_cons_zero, List.getElem_cons_succ, List.setIfInBounds_toArray, List.set_cons_zero, List.set_cons_succ]
          refine wpAnyH_ready (rs := [5]) (by kernel_rfl) (by simp) ?_
          refine AllReadyH.cons rfl (fun K hK => ?_) AllReadyH.nil
          go_simp
          go_at_call 34
          refine (RCapB 3 _).mono ?_
          rintro e u2 ⟨rfl, h1⟩
          have bu2 := Below.go bu1 h1
          clear h1
          refine hK.out _ _ bu2 (fun _ => ?_)
          clear hK K
          try simp only [Act.put, List.getElem_toArray, List.getElem_cons_zero, List.getElem_cons_succ, List.setIfInBounds_toArray, List.set_cons_zero, List.set_cons_succ]
          rw [show capF 3 = 64 from rfl]
          have d9 : decide ((64 : Int) < (9 : Int)) = false := decide_eq_false (by have := RL.out; omega)
          refine wpAnyH_take (i := 6) (v := .bool false) rfl (by kernel_rfl) (by kernel_rfl) (by kernel_rfl) (fun _ _ _ h => h) (Or.inl ⟨by rfl, fun w' hS => ?_⟩) (by assumption) ?_
          · go_simp
          try simp only [Act.put, List.getElem_toArray, List.getElem_cons_zero, List.getElem_cons_succ, List.setIfInBounds_toArray, List.set_cons_zero, List.set_cons_succ]
          refine wpAnyH_done (by kernel_rfl) ?_ _
          go_wp2_with (fail)
          go_ret
          exact ⟨rfl, Below.go HB.out bu2⟩
        · have hd : (z != 0) = true := by simpa using hz
          have HZ : Hid (chk2 z true = z) := Lib.hid (if_neg hz)
          go_wp2_with (fail)
          go_ret
          exact ⟨by first | rw [HZ.out]; rfl | (simp [chk2, hz]), HB.out⟩
set_option maxHeartbeats 16000000 in
theorem RACheck_4 (A : Ast) (hF : FewA A) (w : World) (hA : AstAt A w) : Calls Tryd.prog 14 #[(.agg #[.int .i64 4, .slice A.M.qv A.M.nv A.M.cv, .slice A.M.qu A.M.nu A.M.cu, .slice A.M.qt A.M.nt A.M.ct, .int .i64 A.X.S, .slice A.X.q A.X.n A.X.c, .int .i64 (A.g 0), .int .i64 (A.g 1), .int .i64 (A.g 2), .int .i64 (A.g 3), .int .i64 (A.g 4), .int .i64 (A.l 0), .int .i64 (A.l 1), .int .i64 (A.l 2), .int .i64 (A.l 3), .int .i64 (A.l 4), .int .i64 (A.l 5), .int .i64 (A.l 6), .int .i64 (A.l 7), .int .i64 (A.l 8), .int .i64 (A.l 9), .int .i64 (A.l 10), .int .i64 (A.l 11), .int .i64 (A.l 12)])] w fun e w' => e = .returned (.int .i64 (chk2 (chkLg A.l) (sameA ⟨4, A.M, A.X, A.g, fun _ => 0⟩ (kinA 4)))) ∧ Below w.heap.size w w' := by
  have AA := Lib.hid hA; have FF := Lib.hid hF
  have CON := Lib.hid (RLight_any A.l)
  have RM : Hid (chkLg A.l = 0 → 31 ≤ 64) := Lib.hid (fun _ => by decide)
  have CB := Lib.hid (fun (w : World) (h : AstAt A w) (hz : chkLg A.l = 0) => Rbytes_4 A hz w)
  rw [oth_4]
  obtain ⟨z, ez⟩ : ∃ z, chkLg A.l = z := ⟨_, rfl⟩
  rw [ez] at CON RM CB ⊢
  obtain ⟨b0, eb0⟩ : ∃ b, someM A.M = b := ⟨_, rfl⟩
  have EB0 := Lib.hid eb0
  rw [eb0]
  obtain ⟨b1, eb1⟩ : ∃ b, someX A.X = b := ⟨_, rfl⟩
  have EB1 := Lib.hid eb1
  rw [eb1]
  obtain ⟨b2, eb2⟩ : ∃ b, matB A.g (fun _ => 0) = b := ⟨_, rfl⟩
  have EB2 := Lib.hid eb2
  rw [eb2]
  clear hA hF ez eb0 eb1 eb2
  go_enter Tryd.func14, Tryd.ntmps14
  go_upto_region 3 with fail
  obtain ⟨W0, hW⟩ : ∃ W0, W0 = (w.alloc (.cells #[.int .i64 4, .slice A.M.qv A.M.nv A.M.cv, .slice A.M.qu A.M.nu A.M.cu, .slice A.M.qt A.M.nt A.M.ct, .int .i64 A.X.S, .slice A.X.q A.X.n A.X.c, .int .i64 (A.g 0), .int .i64 (A.g 1), .int .i64 (A.g 2), .int .i64 (A.g 3), .int .i64 (A.g 4), .int .i64 (A.l 0), .int .i64 (A.l 1), .int .i64 (A.l 2), .int .i64 (A.l 3), .int .i64 (A.l 4), .int .i64 (A.l 5), .int .i64 (A.l 6), .int .i64 (A.l 7), .int .i64 (A.l 8), .int .i64 (A.l 9), .int .i64 (A.l 10), .int .i64 (A.l 11), .int .i64 (A.l 12)] 37)) := ⟨_, rfl⟩
  have hB0 : Below w.heap.size w W0 := hW ▸ (Below.al (Below.refl _ _))
  have HP : Hid (Own w.heap.size ([.int .i64 4, .slice A.M.qv A.M.nv A.M.cv, .slice A.M.qu A.M.nu A.M.cu, .slice A.M.qt A.M.nt A.M.ct, .int .i64 A.X.S, .slice A.X.q A.X.n A.X.c, .int .i64 (A.g 0), .int .i64 (A.g 1), .int .i64 (A.g 2), .int .i64 (A.g 3), .int .i64 (A.g 4), .int .i64 (A.l 0), .int .i64 (A.l 1), .int .i64 (A.l 2), .int .i64 (A.l 3), .int .i64 (A.l 4), .int .i64 (A.l 5), .int .i64 (A.l 6), .int .i64 (A.l 7), .int .i64 (A.l 8), .int .i64 (A.l 9), .int .i64 (A.l 10), .int .i64 (A.l 11), .int .i64 (A.l 12)]) W0) := Lib.hid (hW ▸ (show Own w.heap.size ([.int .i64 4, .slice A.M.qv A.M.nv A.M.cv, .slice A.M.qu A.M.nu A.M.cu, .slice A.M.qt A.M.nt A.M.ct, .int .i64 A.X.S, .slice A.X.q A.X.n A.X.c, .int .i64 (A.g 0), .int .i64 (A.g 1), .int .i64 (A.g 2), .int .i64 (A.g 3), .int .i64 (A.g 4), .int .i64 (A.l 0), .int .i64 (A.l 1), .int .i64 (A.l 2), .int .i64 (A.l 3), .int .i64 (A.l 4), .int .i64 (A.l 5), .int .i64 (A.l 6), .int .i64 (A.l 7), .int .i64 (A.l 8), .int .i64 (A.l 9), .int .i64 (A.l 10), .int .i64 (A.l 11), .int .i64 (A.l 12)]) (w.alloc (.cells #[.int .i64 4, .slice A.M.qv A.M.nv A.M.cv, .slice A.M.qu A.M.nu A.M.cu, .slice A.M.qt A.M.nt A.M.ct, .int .i64 A.X.S, .slice A.X.q A.X.n A.X.c, .int .i64 (A.g 0), .int .i64 (A.g 1), .int .i64 (A.g 2), .int .i64 (A.g 3), .int .i64 (A.g 4), .int .i64 (A.l 0), .int .i64 (A.l 1), .int .i64 (A.l 2), .int .i64 (A.l 3), .int .i64 (A.l 4), .int .i64 (A.l 5), .int .i64 (A.l 6), .int .i64 (A.l 7), .int .i64 (A.l 8), .int .i64 (A.l 9), .int .i64 (A.l 10), .int .i64 (A.l 11), .int .i64 (A.l 12)] 37)) from Own.newAt (by simp)))
  rw [← hW]
  clear hW
  obtain ⟨P, eP⟩ : ∃ X, X = w.heap.size := ⟨_, rfl⟩
  rw [← eP] at HP ⊢
  have Pw : w.heap.size ≤ P := by omega
  clear eP
  have HB := Lib.hid hB0
  have AA_ := Lib.hid (AA.out.later hB0)
  clear AA
  have AA := AA_
  clear AA_
  clear hB0
  have oP := HP.out
  have P0 := oP.at 0 _ rfl
  have P11 := oP.at 11 _ rfl
  have P12 := oP.at 12 _ rfl
  have P13 := oP.at 13 _ rfl
  have P14 := oP.at 14 _ rfl
  have P15 := oP.at 15 _ rfl
  have P16 := oP.at 16 _ rfl
  have P17 := oP.at 17 _ rfl
  have P18 := oP.at 18 _ rfl
  have P19 := oP.at 19 _ rfl
  have P20 := oP.at 20 _ rfl
  have P21 := oP.at 21 _ rfl
  have P22 := oP.at 22 _ rfl
  have P23 := oP.at 23 _ rfl
  have Pl := oP.lt
  clear oP
  go_wp2_with (fail)
  clear P0 P11 P12 P13 P14 P15 P16 P17 P18 P19 P20 P21 P22 P23 Pl
  go_at_call 12
  refine (CON.out _ ).mono ?_
  rintro e w1 ⟨rfl, hb⟩
  have HP_ := Lib.hid (HP.out.later hb)
  clear HP
  have HP := HP_
  clear HP_
  have AA_ := Lib.hid (AA.out.later hb)
  clear AA
  have AA := AA_
  clear AA_
  have HB_ := Lib.hid (Below.go HB.out hb)
  clear HB
  have HB := HB_
  clear HB_
  clear hb CON
  have oP := HP.out
  have P1 := oP.at 1 _ rfl
  have P2 := oP.at 2 _ rfl
  have P3 := oP.at 3 _ rfl
  have Pl := oP.lt
  clear oP
  go_wp2_with (fail)
  clear P1 P2 P3 Pl
  go_at_call 32
  refine (Rmesh_any A.M _ ⟨FF.out.v, FF.out.u, FF.out.t⟩).mono ?_
  rintro e v0 ⟨rfl, hb⟩
  have HP_ := Lib.hid (HP.out.later hb)
  clear HP
  have HP := HP_
  clear HP_
  have AA_ := Lib.hid (AA.out.later hb)
  clear AA
  have AA := AA_
  clear AA_
  have HB_ := Lib.hid (Below.go HB.out hb)
  clear HB
  have HB := HB_
  clear HB_
  clear hb 
  rw [EB0.out]
  cases b0 with
  | true =>
    by_cases hz : z = 0
    · subst hz
      have HZ : Hid (chk2 0 false = 5) := Lib.hid rfl
      go_wp2_with (fail)
      go_ret
      exact ⟨rfl, HB.out⟩
    · have hd : (z != 0) = true := by simpa using hz
      have HZ : Hid (chk2 z false = z) := Lib.hid (if_neg hz)
      go_wp2_with (fail)
      go_ret
      exact ⟨by first | rw [HZ.out]; rfl | (simp [chk2, hz]), HB.out⟩
  | false =>
    have oP := HP.out
    have P4 := oP.at 4 _ rfl
    have P5 := oP.at 5 _ rfl
    have Pl := oP.lt
    clear oP
    go_wp2_with (fail)
    clear P4 P5 Pl
    go_at_call 30
    refine (Rtex_any A.X _).mono ?_
    rintro e v1 ⟨rfl, hb⟩
    have HP_ := Lib.hid (HP.out.later hb)
    clear HP
    have HP := HP_
    clear HP_
    have AA_ := Lib.hid (AA.out.later hb)
    clear AA
    have AA := AA_
    clear AA_
    have HB_ := Lib.hid (Below.go HB.out hb)
    clear HB
    have HB := HB_
    clear HB_
    clear hb 
    rw [EB1.out]
    cases b1 with
    | true =>
      by_cases hz : z = 0
      · subst hz
        have HZ : Hid (chk2 0 false = 5) := Lib.hid rfl
        go_wp2_with (fail)
        go_ret
        exact ⟨rfl, HB.out⟩
      · have hd : (z != 0) = true := by simpa using hz
        have HZ : Hid (chk2 z false = z) := Lib.hid (if_neg hz)
        go_wp2_with (fail)
        go_ret
        exact ⟨by first | rw [HZ.out]; rfl | (simp [chk2, hz]), HB.out⟩
    | false =>
      have x2 := EB2.out
      have oP := HP.out
      have P6 := oP.at 6 _ rfl
      have P7 := oP.at 7 _ rfl
      have P8 := oP.at 8 _ rfl
      have P9 := oP.at 9 _ rfl
      have P10 := oP.at 10 _ rfl
      have Pl := oP.lt
      clear oP
      cases b2 with
      | false =>
        by_cases hz : z = 0
        · subst hz
          have HZ : Hid (chk2 0 false = 5) := Lib.hid rfl
          go_wp2_with (fail)
          go_ret
          exact ⟨rfl, HB.out⟩
        · have hd : (z != 0) = true := by simpa using hz
          have HZ : Hid (chk2 z false = z) := Lib.hid (if_neg hz)
          go_wp2_with (fail)
          go_ret
          exact ⟨by first | rw [HZ.out]; rfl | (simp [chk2, hz]), HB.out⟩
      | true =>
        by_cases hz : z = 0
        · subst hz
          have RL := Lib.hid (RM.out rfl)
          go_upto_region 20 with fail
          refine wp_region_held_drew (S := fun w' => Below v1.heap.size v1 w') (by kernel_rfl) (Below.refl _ _).drew (fun hb0_ => ?_)
          refine wpAnyH_take (i := 0) (v := .agg ([.int .i64 4, .slice A.M.qv A.M.nv A.M.cv, .slice A.M.qu A.M.nu A.M.cu, .slice A.M.qt A.M.nt A.M.ct, .int .i64 A.X.S, .slice A.X.q A.X.n A.X.c, .int .i64 (A.g 0), .int .i64 (A.g 1), .int .i64 (A.g 2), .int .i64 (A.g 3), .int .i64 (A.g 4), .int .i64 (A.l 0), .int .i64 (A.l 1), .int .i64 (A.l 2), .int .i64 (A.l 3), .int .i64 (A.l 4), .int .i64 (A.l 5), .int .i64 (A.l 6), .int .i64 (A.l 7), .int .i64 (A.l 8), .int .i64 (A.l 9), .int .i64 (A.l 10), .int .i64 (A.l 11), .int .i64 (A.l 12)]).toArray) rfl (by kernel_rfl) (by kernel_rfl) (by kernel_rfl) (fun _ _ _ h => h) (yieldsIf_load_mid (by rfl) 37 _ rfl P 0 rfl ([.int .i64 4, .slice A.M.qv A.M.nv A.M.cv, .slice A.M.qu A.M.nu A.M.cu, .slice A.M.qt A.M.nt A.M.ct, .int .i64 A.X.S, .slice A.X.q A.X.n A.X.c, .int .i64 (A.g 0), .int .i64 (A.g 1), .int .i64 (A.g 2), .int .i64 (A.g 3), .int .i64 (A.g 4), .int .i64 (A.l 0), .int .i64 (A.l 1), .int .i64 (A.l 2), .int .i64 (A.l 3), .int .i64 (A.l 4), .int .i64 (A.l 5), .int .i64 (A.l 6), .int .i64 (A.l 7), .int .i64 (A.l 8), .int .i64 (A.l 9), .int .i64 (A.l 10), .int .i64 (A.l 11), .int .i64 (A.l 12)]) _ (fun w h => (HP.out.later h).cell) Tryd.underlying37 rfl (by kernel_rfl)) (by assumption) ?_
          try simp only [Act.put, List.getElem_toArray, List.getElem_cons_zero, List.getElem_cons_succ, List.setIfInBounds_toArray, List.set_cons_zero, List.set_cons_succ]
          refine wpAnyH_take (i := 3) (v := ?_) rfl (by kernel_rfl) (by kernel_rfl) (by kernel_rfl) (fun _ _ _ h => h) (Or.inl ⟨by rfl, ?_⟩) (by assumption) ?_
          rotate_left
          · intro w' hS; go_simp; try (with_reducible rfl)
          try simp only [Act.put, List.getElem_toArray, List.getElem_cons_zero, List.getElem_cons_succ, List.setIfInBounds_toArray, List.set_cons_zero, List.set_cons_succ]
          refine wpAnyH_take (i := 4) (v := ?_) rfl (by kernel_rfl) (by kernel_rfl) (by kernel_rfl) (fun _ _ _ h => h) (Or.inl ⟨by rfl, ?_⟩) (by assumption) ?_
          rotate_left
          · intro w' hS; have q0 := (HP.out.later hS).at 0 _ rfl; have ql := (HP.out.later hS).lt; go_simp; try (with_reducible rfl)
          try simp only [Act.put, List.getElem_toArray, List.getElem_cons_zero, List.getElem_cons_succ, List.setIfInBounds_toArray, List.set_cons_zero, List.set_cons_succ]
          refine wpAnyH_ready (rs := [1]) (by kernel_rfl) (by simp) ?_
          refine AllReadyH.cons rfl (fun K hK => ?_) AllReadyH.nil
          go_simp
          go_at_call 33
          refine (CB.out _ (AA.out.later hb0_) (by first | rfl | trivial)).mono ?_
          rintro e u1 ⟨⟨v, rfl, hr⟩, h1⟩
          have bu1 := Below.go hb0_ h1
          clear h1
          obtain ⟨qq, cc, rfl, -, -, -⟩ := hr
          refine hK.out _ _ bu1 (fun _ => ?_)
          clear hK K
          try simp only [Act.put, List.getElem_toArray, List.getElem_cons_zero, List.getElem_cons_succ, List.setIfInBounds_toArray, List.set_cons_zero, List.set_cons_succ]
          refine wpAnyH_take (i := 2) (v := ?_) rfl (by kernel_rfl) (by kernel_rfl) (by kernel_rfl) (fun _ _ _ h => h) (Or.inl ⟨by rfl, ?_⟩) (by assumption) ?_
          rotate_left
          · intro w' hS; go_simp; try (with_reducible rfl)
          try simp only [Act.put, List.getElem_toArray, List.getElem_cons_zero, List.getElem_cons_succ, List.setIfInBounds_toArray, List.set_cons_zero, List.set_cons_succ]
          refine wpAnyH_ready (rs := [5]) (by kernel_rfl) (by simp) ?_
          refine AllReadyH.cons rfl (fun K hK => ?_) AllReadyH.nil
          go_simp
          go_at_call 34
          refine (RCapB 4 _).mono ?_
          rintro e u2 ⟨rfl, h1⟩
          have bu2 := Below.go bu1 h1
          clear h1
          refine hK.out _ _ bu2 (fun _ => ?_)
          clear hK K
          try simp only [Act.put, List.getElem_toArray, List.getElem_cons_zero, List.getElem_cons_succ, List.setIfInBounds_toArray, List.set_cons_zero, List.set_cons_succ]
          rw [show capF 4 = 64 from rfl]
          have d9 : decide ((64 : Int) < (31 : Int)) = false := decide_eq_false (by have := RL.out; omega)
          refine wpAnyH_take (i := 6) (v := .bool false) rfl (by kernel_rfl) (by kernel_rfl) (by kernel_rfl) (fun _ _ _ h => h) (Or.inl ⟨by rfl, fun w' hS => ?_⟩) (by assumption) ?_
          · go_simp
          try simp only [Act.put, List.getElem_toArray, List.getElem_cons_zero, List.getElem_cons_succ, List.setIfInBounds_toArray, List.set_cons_zero, List.set_cons_succ]
          refine wpAnyH_done (by kernel_rfl) ?_ _
          go_wp2_with (fail)
          go_ret
          exact ⟨rfl, Below.go HB.out bu2⟩
        · have hd : (z != 0) = true := by simpa using hz
          have HZ : Hid (chk2 z true = z) := Lib.hid (if_neg hz)
          go_wp2_with (fail)
          go_ret
          exact ⟨by first | rw [HZ.out]; rfl | (simp [chk2, hz]), HB.out⟩
end Go.Proofs.YtokfhhngnpbdkaaDoor
