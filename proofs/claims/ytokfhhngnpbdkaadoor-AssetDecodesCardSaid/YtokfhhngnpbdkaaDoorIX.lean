/- asset: the document's Check and Encode of all kinds. -/
import Derived.Test.YtokfhhngnpbdkaaDoorIW
import Derived.Test.YtokfhhngnpbdkaaDoorIUn
import Derived.Lib.Hide
import Derived.LoopN
import Derived.LoopTactic
import Derived.Deep.Onto
import Derived.Deep.RegionHeld3
import Derived.Deep.QuietTactic
import Derived.BigQuiet
import Derived.Great.BuildSlice
import Derived.StillTailTactics
import Derived.Lib.SliceRun
import Derived.OrdersHeld
namespace Go.Proofs.YtokfhhngnpbdkaaDoor
set_option linter.unusedVariables false
set_option maxRecDepth 2000
set_option linter.unusedSimpArgs false
open Go.RowKit
set_option maxHeartbeats 8000000 in
theorem RACheck_0 (A : Ast) (hk : A.k ≠ 1 ∧ A.k ≠ 2 ∧ A.k ≠ 3 ∧ A.k ≠ 4) (w : World) : Calls Tryd.prog 14 #[(.agg #[.int .i64 A.k, .slice A.M.qv A.M.nv A.M.cv, .slice A.M.qu A.M.nu A.M.cu, .slice A.M.qt A.M.nt A.M.ct, .int .i64 A.X.S, .slice A.X.q A.X.n A.X.c, .int .i64 (A.g 0), .int .i64 (A.g 1), .int .i64 (A.g 2), .int .i64 (A.g 3), .int .i64 (A.g 4), .int .i64 (A.l 0), .int .i64 (A.l 1), .int .i64 (A.l 2), .int .i64 (A.l 3), .int .i64 (A.l 4), .int .i64 (A.l 5), .int .i64 (A.l 6), .int .i64 (A.l 7), .int .i64 (A.l 8), .int .i64 (A.l 9), .int .i64 (A.l 10), .int .i64 (A.l 11), .int .i64 (A.l 12)])] w fun e w' => e = .returned (.int .i64 12) ∧ Below w.heap.size w w' := by
  have d1 : (A.k == 1) = false := by simpa using hk.1
  have d2 : (A.k == 2) = false := by simpa using hk.2.1
  have d3 : (A.k == 3) = false := by simpa using hk.2.2.1
  have d4 : (A.k == 4) = false := by simpa using hk.2.2.2
  clear hk
  go_enter Tryd.func14, Tryd.ntmps14
  go_upto_region 3 with fail
  obtain ⟨W0, hW⟩ : ∃ W0, W0 = (w.alloc (.cells #[.int .i64 A.k, .slice A.M.qv A.M.nv A.M.cv, .slice A.M.qu A.M.nu A.M.cu, .slice A.M.qt A.M.nt A.M.ct, .int .i64 A.X.S, .slice A.X.q A.X.n A.X.c, .int .i64 (A.g 0), .int .i64 (A.g 1), .int .i64 (A.g 2), .int .i64 (A.g 3), .int .i64 (A.g 4), .int .i64 (A.l 0), .int .i64 (A.l 1), .int .i64 (A.l 2), .int .i64 (A.l 3), .int .i64 (A.l 4), .int .i64 (A.l 5), .int .i64 (A.l 6), .int .i64 (A.l 7), .int .i64 (A.l 8), .int .i64 (A.l 9), .int .i64 (A.l 10), .int .i64 (A.l 11), .int .i64 (A.l 12)] 37)) := ⟨_, rfl⟩
  have hB0 : Below w.heap.size w W0 := hW ▸ (Below.al (Below.refl _ _))
  have HP : Hid (Own w.heap.size ([.int .i64 A.k, .slice A.M.qv A.M.nv A.M.cv, .slice A.M.qu A.M.nu A.M.cu, .slice A.M.qt A.M.nt A.M.ct, .int .i64 A.X.S, .slice A.X.q A.X.n A.X.c, .int .i64 (A.g 0), .int .i64 (A.g 1), .int .i64 (A.g 2), .int .i64 (A.g 3), .int .i64 (A.g 4), .int .i64 (A.l 0), .int .i64 (A.l 1), .int .i64 (A.l 2), .int .i64 (A.l 3), .int .i64 (A.l 4), .int .i64 (A.l 5), .int .i64 (A.l 6), .int .i64 (A.l 7), .int .i64 (A.l 8), .int .i64 (A.l 9), .int .i64 (A.l 10), .int .i64 (A.l 11), .int .i64 (A.l 12)]) W0) := Lib.hid (hW ▸ (show Own w.heap.size ([.int .i64 A.k, .slice A.M.qv A.M.nv A.M.cv, .slice A.M.qu A.M.nu A.M.cu, .slice A.M.qt A.M.nt A.M.ct, .int .i64 A.X.S, .slice A.X.q A.X.n A.X.c, .int .i64 (A.g 0), .int .i64 (A.g 1), .int .i64 (A.g 2), .int .i64 (A.g 3), .int .i64 (A.g 4), .int .i64 (A.l 0), .int .i64 (A.l 1), .int .i64 (A.l 2), .int .i64 (A.l 3), .int .i64 (A.l 4), .int .i64 (A.l 5), .int .i64 (A.l 6), .int .i64 (A.l 7), .int .i64 (A.l 8), .int .i64 (A.l 9), .int .i64 (A.l 10), .int .i64 (A.l 11), .int .i64 (A.l 12)]) (w.alloc (.cells #[.int .i64 A.k, .slice A.M.qv A.M.nv A.M.cv, .slice A.M.qu A.M.nu A.M.cu, .slice A.M.qt A.M.nt A.M.ct, .int .i64 A.X.S, .slice A.X.q A.X.n A.X.c, .int .i64 (A.g 0), .int .i64 (A.g 1), .int .i64 (A.g 2), .int .i64 (A.g 3), .int .i64 (A.g 4), .int .i64 (A.l 0), .int .i64 (A.l 1), .int .i64 (A.l 2), .int .i64 (A.l 3), .int .i64 (A.l 4), .int .i64 (A.l 5), .int .i64 (A.l 6), .int .i64 (A.l 7), .int .i64 (A.l 8), .int .i64 (A.l 9), .int .i64 (A.l 10), .int .i64 (A.l 11), .int .i64 (A.l 12)] 37)) from Own.newAt (by simp)))
  rw [← hW]
  clear hW
  obtain ⟨P, eP⟩ : ∃ X, X = w.heap.size := ⟨_, rfl⟩
  rw [← eP] at HP ⊢
  have Pw : w.heap.size ≤ P := by omega
  clear eP
  have oP := HP.out
  have P0 := oP.at 0 _ rfl
  have Pl := oP.lt
  clear oP
  go_wp2_with (fail)
  go_ret
  exact ⟨rfl, hB0⟩
theorem RACheck_any (A : Ast) (hF : FewA A) (w : World) (hA : AstAt A w) : Calls Tryd.prog 14 #[(.agg #[.int .i64 A.k, .slice A.M.qv A.M.nv A.M.cv, .slice A.M.qu A.M.nu A.M.cu, .slice A.M.qt A.M.nt A.M.ct, .int .i64 A.X.S, .slice A.X.q A.X.n A.X.c, .int .i64 (A.g 0), .int .i64 (A.g 1), .int .i64 (A.g 2), .int .i64 (A.g 3), .int .i64 (A.g 4), .int .i64 (A.l 0), .int .i64 (A.l 1), .int .i64 (A.l 2), .int .i64 (A.l 3), .int .i64 (A.l 4), .int .i64 (A.l 5), .int .i64 (A.l 6), .int .i64 (A.l 7), .int .i64 (A.l 8), .int .i64 (A.l 9), .int .i64 (A.l 10), .int .i64 (A.l 11), .int .i64 (A.l 12)])] w fun e w' => e = .returned (.int .i64 (chkA A)) ∧ Below w.heap.size w w' := by
  obtain ⟨k, M, X, g, l⟩ := A
  by_cases k1 : k = 1
  · subst k1
    exact RACheck_1 ⟨1, M, X, g, l⟩ hF w hA
  · by_cases k2 : k = 2
    · subst k2
      exact RACheck_2 ⟨2, M, X, g, l⟩ hF w hA
    · by_cases k3 : k = 3
      · subst k3
        exact RACheck_3 ⟨3, M, X, g, l⟩ hF w hA
      · by_cases k4 : k = 4
        · subst k4
          exact RACheck_4 ⟨4, M, X, g, l⟩ hF w hA
        · have e12 : chkA ⟨k, M, X, g, l⟩ = 12 := by unfold chkA; rw [if_neg k1, if_neg k2, if_neg k3, if_neg k4]
          rw [e12]
          exact RACheck_0 ⟨k, M, X, g, l⟩ ⟨k1, k2, k3, k4⟩ w
/-- the bytes of an asset that may be -/
theorem Rbytes_any (A : Ast) (hz : chkA A = 0) (w : World) (hA : AstAt A w) : Calls Tryd.prog 33 #[(.agg #[.int .i64 A.k, .slice A.M.qv A.M.nv A.M.cv, .slice A.M.qu A.M.nu A.M.cu, .slice A.M.qt A.M.nt A.M.ct, .int .i64 A.X.S, .slice A.X.q A.X.n A.X.c, .int .i64 (A.g 0), .int .i64 (A.g 1), .int .i64 (A.g 2), .int .i64 (A.g 3), .int .i64 (A.g 4), .int .i64 (A.l 0), .int .i64 (A.l 1), .int .i64 (A.l 2), .int .i64 (A.l 3), .int .i64 (A.l 4), .int .i64 (A.l 5), .int .i64 (A.l 6), .int .i64 (A.l 7), .int .i64 (A.l 8), .int .i64 (A.l 9), .int .i64 (A.l 10), .int .i64 (A.l 11), .int .i64 (A.l 12)])] w fun e w' => (∃ v, e = .returned v ∧ RowR w' v (lenA A) (encA A)) ∧ Below w.heap.size w w' := by
  obtain ⟨k, M, X, g, l⟩ := A
  by_cases k1 : k = 1
  · subst k1
    have hz1 := (chk2_zero (show chk2 (chkM M) (sameA _ (kinA 1)) = 0 from hz)).1
    have := Rbytes_1 ⟨1, M, X, g, l⟩ w hA
    rw [show chkM (Ast.M ⟨1, M, X, g, l⟩) = 0 from hz1] at this
    exact this
  · by_cases k2 : k = 2
    · subst k2
      have hz1 := (chk2_zero (show chk2 (chkT X.S X.n X.f) (sameA _ (kinA 2)) = 0 from hz)).1
      have := Rbytes_2 ⟨2, M, X, g, l⟩ w hA
      rw [show chkT (Ast.X ⟨2, M, X, g, l⟩).S (Ast.X ⟨2, M, X, g, l⟩).n (Ast.X ⟨2, M, X, g, l⟩).f = 0 from hz1] at this
      exact this
    · by_cases k3 : k = 3
      · subst k3
        exact Rbytes_3 ⟨3, M, X, g, l⟩ (chk2_zero (show chk2 (chkG g) (sameA _ (kinA 3)) = 0 from hz)).1 w
      · by_cases k4 : k = 4
        · subst k4
          exact Rbytes_4 ⟨4, M, X, g, l⟩ (chk2_zero (show chk2 (chkLg l) (sameA _ (kinA 4)) = 0 from hz)).1 w
        · have e12 : chkA ⟨k, M, X, g, l⟩ = 12 := by unfold chkA; rw [if_neg k1, if_neg k2, if_neg k3, if_neg k4]
          rw [e12] at hz
          cases hz
set_option maxHeartbeats 8000000 in
theorem AREncode_any (A : Ast) (hF : FewA A) (w : World) (hA : AstAt A w) : Calls Tryd.prog 17 #[(.agg #[.int .i64 A.k, .slice A.M.qv A.M.nv A.M.cv, .slice A.M.qu A.M.nu A.M.cu, .slice A.M.qt A.M.nt A.M.ct, .int .i64 A.X.S, .slice A.X.q A.X.n A.X.c, .int .i64 (A.g 0), .int .i64 (A.g 1), .int .i64 (A.g 2), .int .i64 (A.g 3), .int .i64 (A.g 4), .int .i64 (A.l 0), .int .i64 (A.l 1), .int .i64 (A.l 2), .int .i64 (A.l 3), .int .i64 (A.l 4), .int .i64 (A.l 5), .int .i64 (A.l 6), .int .i64 (A.l 7), .int .i64 (A.l 8), .int .i64 (A.l 9), .int .i64 (A.l 10), .int .i64 (A.l 11), .int .i64 (A.l 12)])] w fun e w' => (∃ v, e = .returned (.tuple #[v, .int .i64 (chkA A)]) ∧ RowR w' v (encL (chkA A) (lenA A)) (encA A)) ∧ Below w.heap.size w w' := by
  have CON := Lib.hid (fun w h => RACheck_any A hF w h)
  have CB := Lib.hid (fun (hz : chkA A = 0) w h => Rbytes_any A hz w h)
  have AA := Lib.hid hA
  generalize lenA A = len at *
  generalize encA A = F at *
  generalize chkA A = z at *
  clear hF hA
  go_enter Tryd.func17, Tryd.ntmps17
  go_upto_region 1 with fail
  obtain ⟨W0, hW⟩ : ∃ W0, W0 = (w.alloc (.cells #[.int .i64 A.k, .slice A.M.qv A.M.nv A.M.cv, .slice A.M.qu A.M.nu A.M.cu, .slice A.M.qt A.M.nt A.M.ct, .int .i64 A.X.S, .slice A.X.q A.X.n A.X.c, .int .i64 (A.g 0), .int .i64 (A.g 1), .int .i64 (A.g 2), .int .i64 (A.g 3), .int .i64 (A.g 4), .int .i64 (A.l 0), .int .i64 (A.l 1), .int .i64 (A.l 2), .int .i64 (A.l 3), .int .i64 (A.l 4), .int .i64 (A.l 5), .int .i64 (A.l 6), .int .i64 (A.l 7), .int .i64 (A.l 8), .int .i64 (A.l 9), .int .i64 (A.l 10), .int .i64 (A.l 11), .int .i64 (A.l 12)] 37)) := ⟨_, rfl⟩
  have hB0 : Below w.heap.size w W0 := hW ▸ (Below.al (Below.refl _ _))
  have HP : Hid (Own w.heap.size ([.int .i64 A.k, .slice A.M.qv A.M.nv A.M.cv, .slice A.M.qu A.M.nu A.M.cu, .slice A.M.qt A.M.nt A.M.ct, .int .i64 A.X.S, .slice A.X.q A.X.n A.X.c, .int .i64 (A.g 0), .int .i64 (A.g 1), .int .i64 (A.g 2), .int .i64 (A.g 3), .int .i64 (A.g 4), .int .i64 (A.l 0), .int .i64 (A.l 1), .int .i64 (A.l 2), .int .i64 (A.l 3), .int .i64 (A.l 4), .int .i64 (A.l 5), .int .i64 (A.l 6), .int .i64 (A.l 7), .int .i64 (A.l 8), .int .i64 (A.l 9), .int .i64 (A.l 10), .int .i64 (A.l 11), .int .i64 (A.l 12)]) W0) := Lib.hid (hW ▸ (show Own w.heap.size ([.int .i64 A.k, .slice A.M.qv A.M.nv A.M.cv, .slice A.M.qu A.M.nu A.M.cu, .slice A.M.qt A.M.nt A.M.ct, .int .i64 A.X.S, .slice A.X.q A.X.n A.X.c, .int .i64 (A.g 0), .int .i64 (A.g 1), .int .i64 (A.g 2), .int .i64 (A.g 3), .int .i64 (A.g 4), .int .i64 (A.l 0), .int .i64 (A.l 1), .int .i64 (A.l 2), .int .i64 (A.l 3), .int .i64 (A.l 4), .int .i64 (A.l 5), .int .i64 (A.l 6), .int .i64 (A.l 7), .int .i64 (A.l 8), .int .i64 (A.l 9), .int .i64 (A.l 10), .int .i64 (A.l 11), .int .i64 (A.l 12)]) (w.alloc (.cells #[.int .i64 A.k, .slice A.M.qv A.M.nv A.M.cv, .slice A.M.qu A.M.nu A.M.cu, .slice A.M.qt A.M.nt A.M.ct, .int .i64 A.X.S, .slice A.X.q A.X.n A.X.c, .int .i64 (A.g 0), .int .i64 (A.g 1), .int .i64 (A.g 2), .int .i64 (A.g 3), .int .i64 (A.g 4), .int .i64 (A.l 0), .int .i64 (A.l 1), .int .i64 (A.l 2), .int .i64 (A.l 3), .int .i64 (A.l 4), .int .i64 (A.l 5), .int .i64 (A.l 6), .int .i64 (A.l 7), .int .i64 (A.l 8), .int .i64 (A.l 9), .int .i64 (A.l 10), .int .i64 (A.l 11), .int .i64 (A.l 12)] 37)) from Own.newAt (by simp)))
  rw [← hW]
  clear hW
  obtain ⟨P, eP⟩ : ∃ X, X = w.heap.size := ⟨_, rfl⟩
  rw [← eP] at HP ⊢
  have Pw : w.heap.size ≤ P := by omega
  clear eP
  have HB := Lib.hid hB0
  have AA_ := Lib.hid (AA.out.later hB0)
  clear AA
  have AA := AA_
  clear AA_
  clear hB0
  go_wp2_with (refine wpList_load_mid rfl 37 _ rfl P 0 rfl ([.int .i64 A.k, .slice A.M.qv A.M.nv A.M.cv, .slice A.M.qu A.M.nu A.M.cu, .slice A.M.qt A.M.nt A.M.ct, .int .i64 A.X.S, .slice A.X.q A.X.n A.X.c, .int .i64 (A.g 0), .int .i64 (A.g 1), .int .i64 (A.g 2), .int .i64 (A.g 3), .int .i64 (A.g 4), .int .i64 (A.l 0), .int .i64 (A.l 1), .int .i64 (A.l 2), .int .i64 (A.l 3), .int .i64 (A.l 4), .int .i64 (A.l 5), .int .i64 (A.l 6), .int .i64 (A.l 7), .int .i64 (A.l 8), .int .i64 (A.l 9), .int .i64 (A.l 10), .int .i64 (A.l 11), .int .i64 (A.l 12)]) _ HP.out.cell Tryd.underlying37 rfl (by kernel_rfl) ?_)
  go_at_call 14
  refine (CON.out _ AA.out).mono ?_
  rintro e w1 ⟨rfl, hb⟩
  have HP_ := Lib.hid (HP.out.later hb)
  clear HP
  have HP := HP_
  clear HP_
  have AA_ := Lib.hid (AA.out.later hb)
  clear AA
  have AA := AA_
  clear AA_
  have HB_ := Lib.hid (Below.go HB.out hb)
  clear HB
  have HB := HB_
  clear HB_
  clear hb CON
  by_cases hz : z = 0
  · subst hz
    go_wp2_with (refine wpList_load_mid rfl 37 _ rfl P 0 rfl ([.int .i64 A.k, .slice A.M.qv A.M.nv A.M.cv, .slice A.M.qu A.M.nu A.M.cu, .slice A.M.qt A.M.nt A.M.ct, .int .i64 A.X.S, .slice A.X.q A.X.n A.X.c, .int .i64 (A.g 0), .int .i64 (A.g 1), .int .i64 (A.g 2), .int .i64 (A.g 3), .int .i64 (A.g 4), .int .i64 (A.l 0), .int .i64 (A.l 1), .int .i64 (A.l 2), .int .i64 (A.l 3), .int .i64 (A.l 4), .int .i64 (A.l 5), .int .i64 (A.l 6), .int .i64 (A.l 7), .int .i64 (A.l 8), .int .i64 (A.l 9), .int .i64 (A.l 10), .int .i64 (A.l 11), .int .i64 (A.l 12)]) _ HP.out.cell Tryd.underlying37 rfl (by kernel_rfl) ?_)
    go_at_call 33
    refine (CB.out (by first | rfl | trivial) _ AA.out).mono ?_
    rintro e w2 ⟨⟨v, rfl, hr⟩, hb⟩
    have HB2 := Below.go HB.out hb
    clear hb HB HP AA CB
    go_wp2_with (fail)
    exact bodyPost_ret (v := .tuple #[v, .int .i64 0]) (by simp [results, Tryd.results17, go_sem]) rfl ⟨⟨_, rfl, hr⟩, HB2⟩
  · have hd : (z != 0) = true := by simpa using hz
    have HL : Hid (encL z len = 0) := Lib.hid (if_neg hz)
    go_wp2_with (fail)
    exact bodyPost_ret (v := .tuple #[.slice none 0 0, .int .i64 z]) (by simp [results, Tryd.results17, go_sem]) rfl ⟨⟨_, rfl, none, 0, by rw [HL.out], Nat.le_of_eq HL.out, by decide, .inl HL.out⟩, HB.out⟩
end Go.Proofs.YtokfhhngnpbdkaaDoor
