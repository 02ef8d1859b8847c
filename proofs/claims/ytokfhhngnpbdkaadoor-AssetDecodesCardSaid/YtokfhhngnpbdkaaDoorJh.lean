/- AssetDecodes: the walk. -/
import Derived.Test.YtokfhhngnpbdkaaDoorJg
import Derived.Test.YtokfhhngnpbdkaaDoorIQ
import Derived.Lib.Hide
import Derived.LoopN
import Derived.LoopTactic
import Derived.Deep.Onto
import Derived.Deep.RegionHeld3
import Derived.Deep.QuietTactic
import Derived.BigQuiet
import Derived.Great.BuildSlice
import Derived.StillTailTactics
import Derived.Lib.SliceRun
import Derived.OrdersHeld
namespace Go.Proofs.YtokfhhngnpbdkaaDoor
set_option linter.unusedVariables false
set_option maxRecDepth 2000
set_option linter.unusedSimpArgs false
open Go.RowKit
theorem Decodes_core (k : Int) (F : Nat → Int) (q : Option Addr) (n c m : Nat) (em : min (n : Int) 900 = (m : Int)) (hF : ∀ j, j < m → inB (F j)) (hnc : n ≤ c) (hcx : c ≤ 9223372036854775807) (w : World) (hg : Has 0 0 CapL w) (hq : Byt w q m F) :
    Calls Tryd.prog 5 #[.int .i64 k, .slice q n c] w fun e w' => e = .returned (.bool true) ∧ Below w.heap.size w w' := by
  have QQ := Lib.hid hq; have GG := Lib.hid hg
  have C1 := Lib.hid (fun w h h2 => ADecode_any k F q m c hF (by omega) w h h2)
  have C2 := Lib.hid (fun w h => ARDecode_any k F q m c hF (by omega) hcx (by omega) w h)
  have m0 : (0 : Int) ≤ (m : Int) := by omega
  have m1 : (m : Int) ≤ (c : Int) := by omega
  have m2 : (n : Int) ≤ (c : Int) := by omega
  obtain ⟨z, ez⟩ : ∃ z, decEA k F m = z := ⟨_, rfl⟩
  rw [ez] at C1 C2
  clear hF hnc hcx hg hq ez
  go_enter Tryd.func5, Tryd.ntmps5
  go_wp2_with (fail)
  go_at_call 19
  refine (C1.out _ QQ.out GG.out).mono ?_
  rintro e w1 ⟨⟨A, rfl, hA, fA, yA, nA⟩, hb⟩
  have A1 := Lib.hid hA; have FA := Lib.hid fA; have YA := Lib.hid yA; have NA := Lib.hid nA
  have Q1 := Lib.hid (QQ.out.later hb); have G1 := Lib.hid (GG.out.later hb); have HB1 := Lib.hid hb
  clear hA fA yA nA hb QQ GG C1
  go_upto_region 3 with (refine wpList_store_mid rfl 37 _ _ rfl _ 0 #[.int .i64 A.k, .slice A.M.qv A.M.nv A.M.cv, .slice A.M.qu A.M.nu A.M.cu, .slice A.M.qt A.M.nt A.M.ct, .int .i64 A.X.S, .slice A.X.q A.X.n A.X.c, .int .i64 (A.g 0), .int .i64 (A.g 1), .int .i64 (A.g 2), .int .i64 (A.g 3), .int .i64 (A.g 4), .int .i64 (A.l 0), .int .i64 (A.l 1), .int .i64 (A.l 2), .int .i64 (A.l 3), .int .i64 (A.l 4), .int .i64 (A.l 5), .int .i64 (A.l 6), .int .i64 (A.l 7), .int .i64 (A.l 8), .int .i64 (A.l 9), .int .i64 (A.l 10), .int .i64 (A.l 11), .int .i64 (A.l 12)] rfl rfl (there_newn (cs := [.int .i64 0, .slice none 0 0, .slice none 0 0, .slice none 0 0, .int .i64 0, .slice none 0 0, .int .i64 0, .int .i64 0, .int .i64 0, .int .i64 0, .int .i64 0, .int .i64 0, .int .i64 0, .int .i64 0, .int .i64 0, .int .i64 0, .int .i64 0, .int .i64 0, .int .i64 0, .int .i64 0, .int .i64 0, .int .i64 0, .int .i64 0, .int .i64 0]) (by simp)) (by kernel_rfl) (by simp [Value.oneCell']) ?_; (obtain ⟨w2, hW2⟩ : ∃ W, W = (w1.alloc (.cells #[.int .i64 0, .slice none 0 0, .slice none 0 0, .slice none 0 0, .int .i64 0, .slice none 0 0, .int .i64 0, .int .i64 0, .int .i64 0, .int .i64 0, .int .i64 0, .int .i64 0, .int .i64 0, .int .i64 0, .int .i64 0, .int .i64 0, .int .i64 0, .int .i64 0, .int .i64 0, .int .i64 0, .int .i64 0, .int .i64 0, .int .i64 0, .int .i64 0] 37)).setCells w1.heap.size 0 ([.int .i64 A.k, .slice A.M.qv A.M.nv A.M.cv, .slice A.M.qu A.M.nu A.M.cu, .slice A.M.qt A.M.nt A.M.ct, .int .i64 A.X.S, .slice A.X.q A.X.n A.X.c, .int .i64 (A.g 0), .int .i64 (A.g 1), .int .i64 (A.g 2), .int .i64 (A.g 3), .int .i64 (A.g 4), .int .i64 (A.l 0), .int .i64 (A.l 1), .int .i64 (A.l 2), .int .i64 (A.l 3), .int .i64 (A.l 4), .int .i64 (A.l 5), .int .i64 (A.l 6), .int .i64 (A.l 7), .int .i64 (A.l 8), .int .i64 (A.l 9), .int .i64 (A.l 10), .int .i64 (A.l 11), .int .i64 (A.l 12)]) := ⟨_, rfl⟩); have hbx : Below w1.heap.size w1 w2 := hW2 ▸ Below.setCells (Below.al (Below.refl _ _)) (Nat.le_refl _) _ _; have HQ : Hid (Own w1.heap.size ([.int .i64 A.k, .slice A.M.qv A.M.nv A.M.cv, .slice A.M.qu A.M.nu A.M.cu, .slice A.M.qt A.M.nt A.M.ct, .int .i64 A.X.S, .slice A.X.q A.X.n A.X.c, .int .i64 (A.g 0), .int .i64 (A.g 1), .int .i64 (A.g 2), .int .i64 (A.g 3), .int .i64 (A.g 4), .int .i64 (A.l 0), .int .i64 (A.l 1), .int .i64 (A.l 2), .int .i64 (A.l 3), .int .i64 (A.l 4), .int .i64 (A.l 5), .int .i64 (A.l 6), .int .i64 (A.l 7), .int .i64 (A.l 8), .int .i64 (A.l 9), .int .i64 (A.l 10), .int .i64 (A.l 11), .int .i64 (A.l 12)]) w2) := Lib.hid (hW2 ▸ Own.store (Own.new _ [.int .i64 0, .slice none 0 0, .slice none 0 0, .slice none 0 0, .int .i64 0, .slice none 0 0, .int .i64 0, .int .i64 0, .int .i64 0, .int .i64 0, .int .i64 0, .int .i64 0, .int .i64 0, .int .i64 0, .int .i64 0, .int .i64 0, .int .i64 0, .int .i64 0, .int .i64 0, .int .i64 0, .int .i64 0, .int .i64 0, .int .i64 0, .int .i64 0] _) rfl); change wpList _ _ _ _ _ ((w1.alloc (.cells #[.int .i64 0, .slice none 0 0, .slice none 0 0, .slice none 0 0, .int .i64 0, .slice none 0 0, .int .i64 0, .int .i64 0, .int .i64 0, .int .i64 0, .int .i64 0, .int .i64 0, .int .i64 0, .int .i64 0, .int .i64 0, .int .i64 0, .int .i64 0, .int .i64 0, .int .i64 0, .int .i64 0, .int .i64 0, .int .i64 0, .int .i64 0, .int .i64 0] 37)).setCells w1.heap.size 0 ([.int .i64 A.k, .slice A.M.qv A.M.nv A.M.cv, .slice A.M.qu A.M.nu A.M.cu, .slice A.M.qt A.M.nt A.M.ct, .int .i64 A.X.S, .slice A.X.q A.X.n A.X.c, .int .i64 (A.g 0), .int .i64 (A.g 1), .int .i64 (A.g 2), .int .i64 (A.g 3), .int .i64 (A.g 4), .int .i64 (A.l 0), .int .i64 (A.l 1), .int .i64 (A.l 2), .int .i64 (A.l 3), .int .i64 (A.l 4), .int .i64 (A.l 5), .int .i64 (A.l 6), .int .i64 (A.l 7), .int .i64 (A.l 8), .int .i64 (A.l 9), .int .i64 (A.l 10), .int .i64 (A.l 11), .int .i64 (A.l 12)])); rw [← hW2]; clear hW2)
  obtain ⟨Q, eQ⟩ : ∃ X, X = w1.heap.size := ⟨_, rfl⟩
  rw [← eQ] at HQ ⊢
  clear eQ
  have A2 := Lib.hid (A1.out.later hbx); have Q2 := Lib.hid (Q1.out.later hbx); have G2 := Lib.hid (G1.out.later hbx); have HB2 := Lib.hid (Below.go HB1.out hbx)
  clear hbx A1 Q1 G1 HB1
  go_wp2_with (fail)
  go_at_call 20
  refine (C2.out _ Q2.out).mono ?_
  rintro e w3 ⟨⟨B, rfl, hA, fB, yB, nB⟩, hb⟩
  have A3 := Lib.hid (A2.out.later hb); have B3 := Lib.hid hA; have HQ3 := Lib.hid (HQ.out.later hb); have G3 := Lib.hid (G2.out.later hb); have HB3 := Lib.hid (Below.go HB2.out hb)
  have SM : Hid (sameA A B = true) := Lib.hid (sameA_iff.2 (by
    by_cases hz : z = 0
    · exact (YA.out hz).trans (yB hz).symm
    · exact (NA.out hz).trans (nB hz).symm))
  clear hA fB yB nB hb A2 HQ Q2 G2 HB2 C2 YA NA
  go_upto_region 4 with (refine wpList_store_mid rfl 37 _ _ rfl _ 0 #[.int .i64 B.k, .slice B.M.qv B.M.nv B.M.cv, .slice B.M.qu B.M.nu B.M.cu, .slice B.M.qt B.M.nt B.M.ct, .int .i64 B.X.S, .slice B.X.q B.X.n B.X.c, .int .i64 (B.g 0), .int .i64 (B.g 1), .int .i64 (B.g 2), .int .i64 (B.g 3), .int .i64 (B.g 4), .int .i64 (B.l 0), .int .i64 (B.l 1), .int .i64 (B.l 2), .int .i64 (B.l 3), .int .i64 (B.l 4), .int .i64 (B.l 5), .int .i64 (B.l 6), .int .i64 (B.l 7), .int .i64 (B.l 8), .int .i64 (B.l 9), .int .i64 (B.l 10), .int .i64 (B.l 11), .int .i64 (B.l 12)] rfl rfl (there_newn (cs := [.int .i64 0, .slice none 0 0, .slice none 0 0, .slice none 0 0, .int .i64 0, .slice none 0 0, .int .i64 0, .int .i64 0, .int .i64 0, .int .i64 0, .int .i64 0, .int .i64 0, .int .i64 0, .int .i64 0, .int .i64 0, .int .i64 0, .int .i64 0, .int .i64 0, .int .i64 0, .int .i64 0, .int .i64 0, .int .i64 0, .int .i64 0, .int .i64 0]) (by simp)) (by kernel_rfl) (by simp [Value.oneCell']) ?_; (obtain ⟨w4, hW2⟩ : ∃ W, W = (w3.alloc (.cells #[.int .i64 0, .slice none 0 0, .slice none 0 0, .slice none 0 0, .int .i64 0, .slice none 0 0, .int .i64 0, .int .i64 0, .int .i64 0, .int .i64 0, .int .i64 0, .int .i64 0, .int .i64 0, .int .i64 0, .int .i64 0, .int .i64 0, .int .i64 0, .int .i64 0, .int .i64 0, .int .i64 0, .int .i64 0, .int .i64 0, .int .i64 0, .int .i64 0] 37)).setCells w3.heap.size 0 ([.int .i64 B.k, .slice B.M.qv B.M.nv B.M.cv, .slice B.M.qu B.M.nu B.M.cu, .slice B.M.qt B.M.nt B.M.ct, .int .i64 B.X.S, .slice B.X.q B.X.n B.X.c, .int .i64 (B.g 0), .int .i64 (B.g 1), .int .i64 (B.g 2), .int .i64 (B.g 3), .int .i64 (B.g 4), .int .i64 (B.l 0), .int .i64 (B.l 1), .int .i64 (B.l 2), .int .i64 (B.l 3), .int .i64 (B.l 4), .int .i64 (B.l 5), .int .i64 (B.l 6), .int .i64 (B.l 7), .int .i64 (B.l 8), .int .i64 (B.l 9), .int .i64 (B.l 10), .int .i64 (B.l 11), .int .i64 (B.l 12)]) := ⟨_, rfl⟩); have hbx : Below w3.heap.size w3 w4 := hW2 ▸ Below.setCells (Below.al (Below.refl _ _)) (Nat.le_refl _) _ _; have HR : Hid (Own w3.heap.size ([.int .i64 B.k, .slice B.M.qv B.M.nv B.M.cv, .slice B.M.qu B.M.nu B.M.cu, .slice B.M.qt B.M.nt B.M.ct, .int .i64 B.X.S, .slice B.X.q B.X.n B.X.c, .int .i64 (B.g 0), .int .i64 (B.g 1), .int .i64 (B.g 2), .int .i64 (B.g 3), .int .i64 (B.g 4), .int .i64 (B.l 0), .int .i64 (B.l 1), .int .i64 (B.l 2), .int .i64 (B.l 3), .int .i64 (B.l 4), .int .i64 (B.l 5), .int .i64 (B.l 6), .int .i64 (B.l 7), .int .i64 (B.l 8), .int .i64 (B.l 9), .int .i64 (B.l 10), .int .i64 (B.l 11), .int .i64 (B.l 12)]) w4) := Lib.hid (hW2 ▸ Own.store (Own.new _ [.int .i64 0, .slice none 0 0, .slice none 0 0, .slice none 0 0, .int .i64 0, .slice none 0 0, .int .i64 0, .int .i64 0, .int .i64 0, .int .i64 0, .int .i64 0, .int .i64 0, .int .i64 0, .int .i64 0, .int .i64 0, .int .i64 0, .int .i64 0, .int .i64 0, .int .i64 0, .int .i64 0, .int .i64 0, .int .i64 0, .int .i64 0, .int .i64 0] _) rfl); change wpList _ _ _ _ _ ((w3.alloc (.cells #[.int .i64 0, .slice none 0 0, .slice none 0 0, .slice none 0 0, .int .i64 0, .slice none 0 0, .int .i64 0, .int .i64 0, .int .i64 0, .int .i64 0, .int .i64 0, .int .i64 0, .int .i64 0, .int .i64 0, .int .i64 0, .int .i64 0, .int .i64 0, .int .i64 0, .int .i64 0, .int .i64 0, .int .i64 0, .int .i64 0, .int .i64 0, .int .i64 0] 37)).setCells w3.heap.size 0 ([.int .i64 B.k, .slice B.M.qv B.M.nv B.M.cv, .slice B.M.qu B.M.nu B.M.cu, .slice B.M.qt B.M.nt B.M.ct, .int .i64 B.X.S, .slice B.X.q B.X.n B.X.c, .int .i64 (B.g 0), .int .i64 (B.g 1), .int .i64 (B.g 2), .int .i64 (B.g 3), .int .i64 (B.g 4), .int .i64 (B.l 0), .int .i64 (B.l 1), .int .i64 (B.l 2), .int .i64 (B.l 3), .int .i64 (B.l 4), .int .i64 (B.l 5), .int .i64 (B.l 6), .int .i64 (B.l 7), .int .i64 (B.l 8), .int .i64 (B.l 9), .int .i64 (B.l 10), .int .i64 (B.l 11), .int .i64 (B.l 12)])); rw [← hW2]; clear hW2)
  obtain ⟨R, eQ⟩ : ∃ X, X = w3.heap.size := ⟨_, rfl⟩
  rw [← eQ] at HR ⊢
  clear eQ
  have A4 := Lib.hid (A3.out.later hbx); have B4 := Lib.hid (B3.out.later hbx); have HQ4 := Lib.hid (HQ3.out.later hbx); have G4 := Lib.hid (G3.out.later hbx); have HB4 := Lib.hid (Below.go HB3.out hbx)
  clear hbx A3 B3 HQ3 G3 HB3
  go_wp2_with (first | (refine wpList_load_mid rfl 37 _ rfl Q 0 rfl ([.int .i64 A.k, .slice A.M.qv A.M.nv A.M.cv, .slice A.M.qu A.M.nu A.M.cu, .slice A.M.qt A.M.nt A.M.ct, .int .i64 A.X.S, .slice A.X.q A.X.n A.X.c, .int .i64 (A.g 0), .int .i64 (A.g 1), .int .i64 (A.g 2), .int .i64 (A.g 3), .int .i64 (A.g 4), .int .i64 (A.l 0), .int .i64 (A.l 1), .int .i64 (A.l 2), .int .i64 (A.l 3), .int .i64 (A.l 4), .int .i64 (A.l 5), .int .i64 (A.l 6), .int .i64 (A.l 7), .int .i64 (A.l 8), .int .i64 (A.l 9), .int .i64 (A.l 10), .int .i64 (A.l 11), .int .i64 (A.l 12)]) _ HQ4.out.cell Tryd.underlying37 rfl (by kernel_rfl) ?_) | (refine wpList_load_mid rfl 37 _ rfl R 0 rfl ([.int .i64 B.k, .slice B.M.qv B.M.nv B.M.cv, .slice B.M.qu B.M.nu B.M.cu, .slice B.M.qt B.M.nt B.M.ct, .int .i64 B.X.S, .slice B.X.q B.X.n B.X.c, .int .i64 (B.g 0), .int .i64 (B.g 1), .int .i64 (B.g 2), .int .i64 (B.g 3), .int .i64 (B.g 4), .int .i64 (B.l 0), .int .i64 (B.l 1), .int .i64 (B.l 2), .int .i64 (B.l 3), .int .i64 (B.l 4), .int .i64 (B.l 5), .int .i64 (B.l 6), .int .i64 (B.l 7), .int .i64 (B.l 8), .int .i64 (B.l 9), .int .i64 (B.l 10), .int .i64 (B.l 11), .int .i64 (B.l 12)]) _ HR.out.cell Tryd.underlying37 rfl (by kernel_rfl) ?_))
  go_at_call 21
  refine (RSame_any A B _ A4.out B4.out FA.out).mono ?_
  rintro e w5 ⟨rfl, hb⟩
  rw [SM.out]
  have G5 := Lib.hid (G4.out.later hb); have HB5 := Lib.hid (Below.go HB4.out hb)
  clear hb A4 B4 HQ4 HR G4 HB4 SM FA
  go_wp2_with (fail)
  go_at_call 15
  refine (works15_any _ G5.out).mono ?_
  rintro e w6 ⟨rfl, hb⟩
  have HB6 := Lib.hid (Below.go HB5.out hb)
  clear hb G5 HB5
  go_wp2_with (fail)
  go_ret
  exact ⟨rfl, HB6.out⟩
theorem Decodes_law (k : Int) (F : Nat → Int) (q : Option Addr) (n c : Nat) (hF : ∀ j, j < n → inB (F j)) (hnc : n ≤ c) (hcx : c ≤ 9223372036854775807) (w : World) (hg : Has 0 0 CapL w) (hq : Byt w q n F) :
    Calls Tryd.prog 5 #[.int .i64 k, .slice q n c] w fun e w' => e = .returned (.bool true) ∧ Below w.heap.size w w' :=
  Decodes_core k F q n c (min n 900) (by omega) (fun j hj => hF j (by omega)) hnc hcx w hg (tbyt_take_ hq (Nat.min_le_left _ _))
end Go.Proofs.YtokfhhngnpbdkaaDoor
