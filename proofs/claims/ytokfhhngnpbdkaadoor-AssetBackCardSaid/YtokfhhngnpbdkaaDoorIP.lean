/- asset: few, works; AssetSame. -/
import Derived.Test.YtokfhhngnpbdkaaDoorIO
import Derived.Lib.Hide
import Derived.LoopN
import Derived.LoopTactic
import Derived.Deep.Onto
import Derived.Deep.RegionHeld3
import Derived.Deep.QuietTactic
import Derived.BigQuiet
import Derived.Great.BuildSlice
import Derived.StillTailTactics
import Derived.Lib.SliceRun
namespace Go.Proofs.YtokfhhngnpbdkaaDoor
set_option linter.unusedVariables false
set_option maxRecDepth 2000
set_option linter.unusedSimpArgs false
open Go.RowKit
/-- the law's own cut -/
def fewA (A : Ast) : Ast := ⟨A.k, ⟨A.M.qv, min A.M.nv 70, A.M.cv, A.M.V, A.M.qu, min A.M.nu 70, A.M.cu, A.M.U, A.M.qt, min A.M.nt 70, A.M.ct, A.M.R⟩, ⟨A.X.S, A.X.q, min A.X.n 260, A.X.c, A.X.f⟩, A.g, A.l⟩
theorem fewA_few (A : Ast) : FewA (fewA A) := ⟨Nat.le_trans (Nat.min_le_right _ _) (by decide), Nat.le_trans (Nat.min_le_right _ _) (by decide), Nat.le_trans (Nat.min_le_right _ _) (by decide), Nat.le_trans (Nat.min_le_right _ _) (by decide)⟩
theorem fewA_at {A : Ast} {w : World} (h : AstAt A w) : AstAt (fewA A) w :=
  ⟨⟨h.m.v.take (Nat.min_le_left _ _), h.m.u.take (Nat.min_le_left _ _), h.m.t.take (Nat.min_le_left _ _), Nat.le_trans (Nat.min_le_left _ _) h.m.lv, Nat.le_trans (Nat.min_le_left _ _) h.m.lu, Nat.le_trans (Nat.min_le_left _ _) h.m.lt, h.m.mv, h.m.mu, h.m.mt⟩, ⟨h.x.t.take (Nat.min_le_left _ _), Nat.le_trans (Nat.min_le_left _ _) h.x.l, h.x.m⟩⟩
set_option maxHeartbeats 8000000 in
theorem fewc_any (A : Ast) (a b c d : Nat) (ea : min (A.M.nv : Int) 70 = (a : Int)) (eb : min (A.M.nu : Int) 70 = (b : Int)) (ec : min (A.M.nt : Int) 70 = (c : Int)) (ed : min (A.X.n : Int) 260 = (d : Int)) (w : World) (hA : AstAt A w) :
    Calls Tryd.prog 8 #[(.agg #[.int .i64 A.k, .slice A.M.qv A.M.nv A.M.cv, .slice A.M.qu A.M.nu A.M.cu, .slice A.M.qt A.M.nt A.M.ct, .int .i64 A.X.S, .slice A.X.q A.X.n A.X.c, .int .i64 (A.g 0), .int .i64 (A.g 1), .int .i64 (A.g 2), .int .i64 (A.g 3), .int .i64 (A.g 4), .int .i64 (A.l 0), .int .i64 (A.l 1), .int .i64 (A.l 2), .int .i64 (A.l 3), .int .i64 (A.l 4), .int .i64 (A.l 5), .int .i64 (A.l 6), .int .i64 (A.l 7), .int .i64 (A.l 8), .int .i64 (A.l 9), .int .i64 (A.l 10), .int .i64 (A.l 11), .int .i64 (A.l 12)])] w fun e w' => e = .returned (.agg #[.int .i64 A.k, .slice A.M.qv a A.M.cv, .slice A.M.qu b A.M.cu, .slice A.M.qt c A.M.ct, .int .i64 A.X.S, .slice A.X.q d A.X.c, .int .i64 (A.g 0), .int .i64 (A.g 1), .int .i64 (A.g 2), .int .i64 (A.g 3), .int .i64 (A.g 4), .int .i64 (A.l 0), .int .i64 (A.l 1), .int .i64 (A.l 2), .int .i64 (A.l 3), .int .i64 (A.l 4), .int .i64 (A.l 5), .int .i64 (A.l 6), .int .i64 (A.l 7), .int .i64 (A.l 8), .int .i64 (A.l 9), .int .i64 (A.l 10), .int .i64 (A.l 11), .int .i64 (A.l 12)]) ∧ Below w.heap.size w w' := by
  have CF := Lib.hid (Few_any A.M.qv A.M.qu A.M.qt A.M.nv A.M.cv A.M.nu A.M.cu A.M.nt A.M.ct a b c ea eb ec hA.m.lv hA.m.lu hA.m.lt hA.m.mv hA.m.mu hA.m.mt)
  have d0 : (0 : Int) ≤ (d : Int) := by omega
  have d1 : (d : Int) ≤ (A.X.c : Int) := by have := hA.x.l; omega
  have d2 : (A.X.n : Int) ≤ (A.X.c : Int) := by have := hA.x.l; omega
  clear hA ea eb ec
  go_enter Tryd.func8, Tryd.ntmps8
  go_upto_region 1 with fail
  obtain ⟨W0, hW⟩ : ∃ W0, W0 = ((w.alloc (.cells #[.int .i64 A.k, .slice A.M.qv A.M.nv A.M.cv, .slice A.M.qu A.M.nu A.M.cu, .slice A.M.qt A.M.nt A.M.ct, .int .i64 A.X.S, .slice A.X.q A.X.n A.X.c, .int .i64 (A.g 0), .int .i64 (A.g 1), .int .i64 (A.g 2), .int .i64 (A.g 3), .int .i64 (A.g 4), .int .i64 (A.l 0), .int .i64 (A.l 1), .int .i64 (A.l 2), .int .i64 (A.l 3), .int .i64 (A.l 4), .int .i64 (A.l 5), .int .i64 (A.l 6), .int .i64 (A.l 7), .int .i64 (A.l 8), .int .i64 (A.l 9), .int .i64 (A.l 10), .int .i64 (A.l 11), .int .i64 (A.l 12)] 37)).alloc (.cells #[.int .i64 0, .slice none 0 0, .slice none 0 0, .slice none 0 0, .int .i64 0, .slice none 0 0, .int .i64 0, .int .i64 0, .int .i64 0, .int .i64 0, .int .i64 0, .int .i64 0, .int .i64 0, .int .i64 0, .int .i64 0, .int .i64 0, .int .i64 0, .int .i64 0, .int .i64 0, .int .i64 0, .int .i64 0, .int .i64 0, .int .i64 0, .int .i64 0] 37)) := ⟨_, rfl⟩
  have hB0 : Below w.heap.size w W0 := hW ▸ (Below.al (Below.al (Below.refl _ _)))
  have HP : Hid (Own w.heap.size ([.int .i64 A.k, .slice A.M.qv A.M.nv A.M.cv, .slice A.M.qu A.M.nu A.M.cu, .slice A.M.qt A.M.nt A.M.ct, .int .i64 A.X.S, .slice A.X.q A.X.n A.X.c, .int .i64 (A.g 0), .int .i64 (A.g 1), .int .i64 (A.g 2), .int .i64 (A.g 3), .int .i64 (A.g 4), .int .i64 (A.l 0), .int .i64 (A.l 1), .int .i64 (A.l 2), .int .i64 (A.l 3), .int .i64 (A.l 4), .int .i64 (A.l 5), .int .i64 (A.l 6), .int .i64 (A.l 7), .int .i64 (A.l 8), .int .i64 (A.l 9), .int .i64 (A.l 10), .int .i64 (A.l 11), .int .i64 (A.l 12)]) W0) := Lib.hid (hW ▸ (show Own w.heap.size ([.int .i64 A.k, .slice A.M.qv A.M.nv A.M.cv, .slice A.M.qu A.M.nu A.M.cu, .slice A.M.qt A.M.nt A.M.ct, .int .i64 A.X.S, .slice A.X.q A.X.n A.X.c, .int .i64 (A.g 0), .int .i64 (A.g 1), .int .i64 (A.g 2), .int .i64 (A.g 3), .int .i64 (A.g 4), .int .i64 (A.l 0), .int .i64 (A.l 1), .int .i64 (A.l 2), .int .i64 (A.l 3), .int .i64 (A.l 4), .int .i64 (A.l 5), .int .i64 (A.l 6), .int .i64 (A.l 7), .int .i64 (A.l 8), .int .i64 (A.l 9), .int .i64 (A.l 10), .int .i64 (A.l 11), .int .i64 (A.l 12)]) (w.alloc (.cells #[.int .i64 A.k, .slice A.M.qv A.M.nv A.M.cv, .slice A.M.qu A.M.nu A.M.cu, .slice A.M.qt A.M.nt A.M.ct, .int .i64 A.X.S, .slice A.X.q A.X.n A.X.c, .int .i64 (A.g 0), .int .i64 (A.g 1), .int .i64 (A.g 2), .int .i64 (A.g 3), .int .i64 (A.g 4), .int .i64 (A.l 0), .int .i64 (A.l 1), .int .i64 (A.l 2), .int .i64 (A.l 3), .int .i64 (A.l 4), .int .i64 (A.l 5), .int .i64 (A.l 6), .int .i64 (A.l 7), .int .i64 (A.l 8), .int .i64 (A.l 9), .int .i64 (A.l 10), .int .i64 (A.l 11), .int .i64 (A.l 12)] 37)) from Own.newAt (by simp)).alloc)
  have HR : Hid (Own (w.heap.size + 1) ([.int .i64 0, .slice none 0 0, .slice none 0 0, .slice none 0 0, .int .i64 0, .slice none 0 0, .int .i64 0, .int .i64 0, .int .i64 0, .int .i64 0, .int .i64 0, .int .i64 0, .int .i64 0, .int .i64 0, .int .i64 0, .int .i64 0, .int .i64 0, .int .i64 0, .int .i64 0, .int .i64 0, .int .i64 0, .int .i64 0, .int .i64 0, .int .i64 0]) W0) := Lib.hid (hW ▸ (show Own (w.heap.size + 1) ([.int .i64 0, .slice none 0 0, .slice none 0 0, .slice none 0 0, .int .i64 0, .slice none 0 0, .int .i64 0, .int .i64 0, .int .i64 0, .int .i64 0, .int .i64 0, .int .i64 0, .int .i64 0, .int .i64 0, .int .i64 0, .int .i64 0, .int .i64 0, .int .i64 0, .int .i64 0, .int .i64 0, .int .i64 0, .int .i64 0, .int .i64 0, .int .i64 0]) ((w.alloc (.cells #[.int .i64 A.k, .slice A.M.qv A.M.nv A.M.cv, .slice A.M.qu A.M.nu A.M.cu, .slice A.M.qt A.M.nt A.M.ct, .int .i64 A.X.S, .slice A.X.q A.X.n A.X.c, .int .i64 (A.g 0), .int .i64 (A.g 1), .int .i64 (A.g 2), .int .i64 (A.g 3), .int .i64 (A.g 4), .int .i64 (A.l 0), .int .i64 (A.l 1), .int .i64 (A.l 2), .int .i64 (A.l 3), .int .i64 (A.l 4), .int .i64 (A.l 5), .int .i64 (A.l 6), .int .i64 (A.l 7), .int .i64 (A.l 8), .int .i64 (A.l 9), .int .i64 (A.l 10), .int .i64 (A.l 11), .int .i64 (A.l 12)] 37)).alloc (.cells #[.int .i64 0, .slice none 0 0, .slice none 0 0, .slice none 0 0, .int .i64 0, .slice none 0 0, .int .i64 0, .int .i64 0, .int .i64 0, .int .i64 0, .int .i64 0, .int .i64 0, .int .i64 0, .int .i64 0, .int .i64 0, .int .i64 0, .int .i64 0, .int .i64 0, .int .i64 0, .int .i64 0, .int .i64 0, .int .i64 0, .int .i64 0, .int .i64 0] 37)) from Own.newAt (by simp)))
  rw [← hW]
  clear hW
  obtain ⟨R, eR⟩ : ∃ X, X = (w.heap.size + 1) := ⟨_, rfl⟩
  rw [← eR] at HR ⊢
  have Rw : w.heap.size ≤ R := by omega
  obtain ⟨P, eP⟩ : ∃ X, X = w.heap.size := ⟨_, rfl⟩
  rw [← eP] at HP ⊢
  have Pw : w.heap.size ≤ P := by omega
  have nPR : P ≠ R := by omega
  have nRP : R ≠ P := by omega
  clear eP eR
  have oP := HP.out
  have P1 := oP.at 1 _ rfl
  have P2 := oP.at 2 _ rfl
  have P3 := oP.at 3 _ rfl
  have Pl := oP.lt
  clear oP
  go_wp2_with (fail)
  clear P1 P2 P3 Pl
  go_at_call 24
  refine (CF.out _).mono ?_
  rintro e w1 ⟨rfl, hb⟩
  have HP1 := Lib.hid (HP.out.later hb); have HR1 := Lib.hid (HR.out.later hb); have hB1 := Below.go hB0 hb
  clear CF HP HR hB0 hb
  have oP := HP1.out
  have P1 := oP.at 1 _ rfl
  have Pf1 := oP.ok 1 (by simp)
  have P2 := oP.at 2 _ rfl
  have Pf2 := oP.ok 2 (by simp)
  have P3 := oP.at 3 _ rfl
  have Pf3 := oP.ok 3 (by simp)
  have Pl := oP.lt
  clear oP
  go_upto_region 2 with fail
  clear P1 P2 P3 Pf1 Pf2 Pf3 Pl
  rw [show (((w1.setCell ⟨P, 1, none⟩ (.slice A.M.qv a A.M.cv)).setCell ⟨P, 2, none⟩ (.slice A.M.qu b A.M.cu)).setCell ⟨P, 3, none⟩ (.slice A.M.qt c A.M.ct)) = w1.setCells P 1 [.slice A.M.qv a A.M.cv, .slice A.M.qu b A.M.cu, .slice A.M.qt c A.M.ct] from rfl]
  have HPn : Hid (Own P ([.int .i64 A.k, .slice A.M.qv a A.M.cv, .slice A.M.qu b A.M.cu, .slice A.M.qt c A.M.ct, .int .i64 A.X.S, .slice A.X.q A.X.n A.X.c, .int .i64 (A.g 0), .int .i64 (A.g 1), .int .i64 (A.g 2), .int .i64 (A.g 3), .int .i64 (A.g 4), .int .i64 (A.l 0), .int .i64 (A.l 1), .int .i64 (A.l 2), .int .i64 (A.l 3), .int .i64 (A.l 4), .int .i64 (A.l 5), .int .i64 (A.l 6), .int .i64 (A.l 7), .int .i64 (A.l 8), .int .i64 (A.l 9), .int .i64 (A.l 10), .int .i64 (A.l 11), .int .i64 (A.l 12)]) (w1.setCells P 1 [.slice A.M.qv a A.M.cv, .slice A.M.qu b A.M.cu, .slice A.M.qt c A.M.ct])) := Lib.hid (show Own P (over _ 1 [.slice A.M.qv a A.M.cv, .slice A.M.qu b A.M.cu, .slice A.M.qt c A.M.ct]) _ from Own.part HP1.out (by simp))
  have HRn := Lib.hid (Own.far (o := 1) (vs := [.slice A.M.qv a A.M.cv, .slice A.M.qu b A.M.cu, .slice A.M.qt c A.M.ct]) HR1.out nRP)
  have hB2 : Below w.heap.size w (w1.setCells P 1 [.slice A.M.qv a A.M.cv, .slice A.M.qu b A.M.cu, .slice A.M.qt c A.M.ct]) := Below.setCells hB1 Pw _ _
  clear HP1 HR1 hB1
  generalize w1.setCells P 1 [.slice A.M.qv a A.M.cv, .slice A.M.qu b A.M.cu, .slice A.M.qt c A.M.ct] = w2 at *
  have oP := HPn.out
  have P5 := oP.at 5 _ rfl
  have Pf5 := oP.ok 5 (by simp)
  have Pl := oP.lt
  clear oP
  go_upto_region 3 with fail
  clear P5 Pf5 Pl
  rw [show (w2.setCell ⟨P, 5, none⟩ (.slice A.X.q d A.X.c)) = w2.setCells P 5 [.slice A.X.q d A.X.c] from rfl]
  have HPm : Hid (Own P ([.int .i64 A.k, .slice A.M.qv a A.M.cv, .slice A.M.qu b A.M.cu, .slice A.M.qt c A.M.ct, .int .i64 A.X.S, .slice A.X.q d A.X.c, .int .i64 (A.g 0), .int .i64 (A.g 1), .int .i64 (A.g 2), .int .i64 (A.g 3), .int .i64 (A.g 4), .int .i64 (A.l 0), .int .i64 (A.l 1), .int .i64 (A.l 2), .int .i64 (A.l 3), .int .i64 (A.l 4), .int .i64 (A.l 5), .int .i64 (A.l 6), .int .i64 (A.l 7), .int .i64 (A.l 8), .int .i64 (A.l 9), .int .i64 (A.l 10), .int .i64 (A.l 11), .int .i64 (A.l 12)]) (w2.setCells P 5 [.slice A.X.q d A.X.c])) := Lib.hid (show Own P (over _ 5 [.slice A.X.q d A.X.c]) _ from Own.part HPn.out (by simp))
  have HRm := Lib.hid (Own.far (o := 5) (vs := [.slice A.X.q d A.X.c]) HRn.out nRP)
  have hB3 : Below w.heap.size w (w2.setCells P 5 [.slice A.X.q d A.X.c]) := Below.setCells hB2 Pw _ _
  clear HPn HRn hB2
  generalize w2.setCells P 5 [.slice A.X.q d A.X.c] = w3 at *
  refine wp_region_lit ?_
  refine wpList_load_mid rfl 37 _ rfl P 0 rfl ([.int .i64 A.k, .slice A.M.qv a A.M.cv, .slice A.M.qu b A.M.cu, .slice A.M.qt c A.M.ct, .int .i64 A.X.S, .slice A.X.q d A.X.c, .int .i64 (A.g 0), .int .i64 (A.g 1), .int .i64 (A.g 2), .int .i64 (A.g 3), .int .i64 (A.g 4), .int .i64 (A.l 0), .int .i64 (A.l 1), .int .i64 (A.l 2), .int .i64 (A.l 3), .int .i64 (A.l 4), .int .i64 (A.l 5), .int .i64 (A.l 6), .int .i64 (A.l 7), .int .i64 (A.l 8), .int .i64 (A.l 9), .int .i64 (A.l 10), .int .i64 (A.l 11), .int .i64 (A.l 12)]) _ HPm.out.cell Tryd.underlying37 rfl (by kernel_rfl) ?_
  refine wpList_store_mid rfl 37 _ _ rfl R 0 ([.int .i64 A.k, .slice A.M.qv a A.M.cv, .slice A.M.qu b A.M.cu, .slice A.M.qt c A.M.ct, .int .i64 A.X.S, .slice A.X.q d A.X.c, .int .i64 (A.g 0), .int .i64 (A.g 1), .int .i64 (A.g 2), .int .i64 (A.g 3), .int .i64 (A.g 4), .int .i64 (A.l 0), .int .i64 (A.l 1), .int .i64 (A.l 2), .int .i64 (A.l 3), .int .i64 (A.l 4), .int .i64 (A.l 5), .int .i64 (A.l 6), .int .i64 (A.l 7), .int .i64 (A.l 8), .int .i64 (A.l 9), .int .i64 (A.l 10), .int .i64 (A.l 11), .int .i64 (A.l 12)]).toArray rfl rfl HRm.out.free (by kernel_rfl) (by simp [Value.oneCell']) ?_
  change wpList _ _ _ [] _ (w3.setCells R 0 ([.int .i64 A.k, .slice A.M.qv a A.M.cv, .slice A.M.qu b A.M.cu, .slice A.M.qt c A.M.ct, .int .i64 A.X.S, .slice A.X.q d A.X.c, .int .i64 (A.g 0), .int .i64 (A.g 1), .int .i64 (A.g 2), .int .i64 (A.g 3), .int .i64 (A.g 4), .int .i64 (A.l 0), .int .i64 (A.l 1), .int .i64 (A.l 2), .int .i64 (A.l 3), .int .i64 (A.l 4), .int .i64 (A.l 5), .int .i64 (A.l 6), .int .i64 (A.l 7), .int .i64 (A.l 8), .int .i64 (A.l 9), .int .i64 (A.l 10), .int .i64 (A.l 11), .int .i64 (A.l 12)]))
  have HRo : Hid (Own R ([.int .i64 A.k, .slice A.M.qv a A.M.cv, .slice A.M.qu b A.M.cu, .slice A.M.qt c A.M.ct, .int .i64 A.X.S, .slice A.X.q d A.X.c, .int .i64 (A.g 0), .int .i64 (A.g 1), .int .i64 (A.g 2), .int .i64 (A.g 3), .int .i64 (A.g 4), .int .i64 (A.l 0), .int .i64 (A.l 1), .int .i64 (A.l 2), .int .i64 (A.l 3), .int .i64 (A.l 4), .int .i64 (A.l 5), .int .i64 (A.l 6), .int .i64 (A.l 7), .int .i64 (A.l 8), .int .i64 (A.l 9), .int .i64 (A.l 10), .int .i64 (A.l 11), .int .i64 (A.l 12)]) (w3.setCells R 0 ([.int .i64 A.k, .slice A.M.qv a A.M.cv, .slice A.M.qu b A.M.cu, .slice A.M.qt c A.M.ct, .int .i64 A.X.S, .slice A.X.q d A.X.c, .int .i64 (A.g 0), .int .i64 (A.g 1), .int .i64 (A.g 2), .int .i64 (A.g 3), .int .i64 (A.g 4), .int .i64 (A.l 0), .int .i64 (A.l 1), .int .i64 (A.l 2), .int .i64 (A.l 3), .int .i64 (A.l 4), .int .i64 (A.l 5), .int .i64 (A.l 6), .int .i64 (A.l 7), .int .i64 (A.l 8), .int .i64 (A.l 9), .int .i64 (A.l 10), .int .i64 (A.l 11), .int .i64 (A.l 12)]))) := Lib.hid (Own.store HRm.out rfl)
  have hB4 : Below w.heap.size w (w3.setCells R 0 ([.int .i64 A.k, .slice A.M.qv a A.M.cv, .slice A.M.qu b A.M.cu, .slice A.M.qt c A.M.ct, .int .i64 A.X.S, .slice A.X.q d A.X.c, .int .i64 (A.g 0), .int .i64 (A.g 1), .int .i64 (A.g 2), .int .i64 (A.g 3), .int .i64 (A.g 4), .int .i64 (A.l 0), .int .i64 (A.l 1), .int .i64 (A.l 2), .int .i64 (A.l 3), .int .i64 (A.l 4), .int .i64 (A.l 5), .int .i64 (A.l 6), .int .i64 (A.l 7), .int .i64 (A.l 8), .int .i64 (A.l 9), .int .i64 (A.l 10), .int .i64 (A.l 11), .int .i64 (A.l 12)])) := Below.setCells hB3 Rw _ _
  clear HPm HRm hB3
  generalize w3.setCells R 0 ([.int .i64 A.k, .slice A.M.qv a A.M.cv, .slice A.M.qu b A.M.cu, .slice A.M.qt c A.M.ct, .int .i64 A.X.S, .slice A.X.q d A.X.c, .int .i64 (A.g 0), .int .i64 (A.g 1), .int .i64 (A.g 2), .int .i64 (A.g 3), .int .i64 (A.g 4), .int .i64 (A.l 0), .int .i64 (A.l 1), .int .i64 (A.l 2), .int .i64 (A.l 3), .int .i64 (A.l 4), .int .i64 (A.l 5), .int .i64 (A.l 6), .int .i64 (A.l 7), .int .i64 (A.l 8), .int .i64 (A.l 9), .int .i64 (A.l 10), .int .i64 (A.l 11), .int .i64 (A.l 12)]) = w4 at *
  go_wp2_with (fail)
  have hL := run_loadVar_mid (P := Tryd.prog) _ R 0 37 ([.int .i64 A.k, .slice A.M.qv a A.M.cv, .slice A.M.qu b A.M.cu, .slice A.M.qt c A.M.ct, .int .i64 A.X.S, .slice A.X.q d A.X.c, .int .i64 (A.g 0), .int .i64 (A.g 1), .int .i64 (A.g 2), .int .i64 (A.g 3), .int .i64 (A.g 4), .int .i64 (A.l 0), .int .i64 (A.l 1), .int .i64 (A.l 2), .int .i64 (A.l 3), .int .i64 (A.l 4), .int .i64 (A.l 5), .int .i64 (A.l 6), .int .i64 (A.l 7), .int .i64 (A.l 8), .int .i64 (A.l 9), .int .i64 (A.l 10), .int .i64 (A.l 11), .int .i64 (A.l 12)]) _ HRo.out.cell Tryd.underlying37 rfl (by kernel_rfl)
  exact bodyPost_ret (v := .agg ([.int .i64 A.k, .slice A.M.qv a A.M.cv, .slice A.M.qu b A.M.cu, .slice A.M.qt c A.M.ct, .int .i64 A.X.S, .slice A.X.q d A.X.c, .int .i64 (A.g 0), .int .i64 (A.g 1), .int .i64 (A.g 2), .int .i64 (A.g 3), .int .i64 (A.g 4), .int .i64 (A.l 0), .int .i64 (A.l 1), .int .i64 (A.l 2), .int .i64 (A.l 3), .int .i64 (A.l 4), .int .i64 (A.l 5), .int .i64 (A.l 6), .int .i64 (A.l 7), .int .i64 (A.l 8), .int .i64 (A.l 9), .int .i64 (A.l 10), .int .i64 (A.l 11), .int .i64 (A.l 12)]).toArray) (res_cell Tryd.results8 rfl hL) rfl ⟨rfl, hB4⟩
theorem lfew_any (A : Ast) (w : World) (hA : AstAt A w) : Calls Tryd.prog 8 #[(.agg #[.int .i64 A.k, .slice A.M.qv A.M.nv A.M.cv, .slice A.M.qu A.M.nu A.M.cu, .slice A.M.qt A.M.nt A.M.ct, .int .i64 A.X.S, .slice A.X.q A.X.n A.X.c, .int .i64 (A.g 0), .int .i64 (A.g 1), .int .i64 (A.g 2), .int .i64 (A.g 3), .int .i64 (A.g 4), .int .i64 (A.l 0), .int .i64 (A.l 1), .int .i64 (A.l 2), .int .i64 (A.l 3), .int .i64 (A.l 4), .int .i64 (A.l 5), .int .i64 (A.l 6), .int .i64 (A.l 7), .int .i64 (A.l 8), .int .i64 (A.l 9), .int .i64 (A.l 10), .int .i64 (A.l 11), .int .i64 (A.l 12)])] w fun e w' => e = .returned (.agg #[.int .i64 (fewA A).k, .slice (fewA A).M.qv (fewA A).M.nv (fewA A).M.cv, .slice (fewA A).M.qu (fewA A).M.nu (fewA A).M.cu, .slice (fewA A).M.qt (fewA A).M.nt (fewA A).M.ct, .int .i64 (fewA A).X.S, .slice (fewA A).X.q (fewA A).X.n (fewA A).X.c, .int .i64 ((fewA A).g 0), .int .i64 ((fewA A).g 1), .int .i64 ((fewA A).g 2), .int .i64 ((fewA A).g 3), .int .i64 ((fewA A).g 4), .int .i64 ((fewA A).l 0), .int .i64 ((fewA A).l 1), .int .i64 ((fewA A).l 2), .int .i64 ((fewA A).l 3), .int .i64 ((fewA A).l 4), .int .i64 ((fewA A).l 5), .int .i64 ((fewA A).l 6), .int .i64 ((fewA A).l 7), .int .i64 ((fewA A).l 8), .int .i64 ((fewA A).l 9), .int .i64 ((fewA A).l 10), .int .i64 ((fewA A).l 11), .int .i64 ((fewA A).l 12)]) ∧ Below w.heap.size w w' :=
  fewc_any A (min A.M.nv 70) (min A.M.nu 70) (min A.M.nt 70) (min A.X.n 260) (by omega) (by omega) (by omega) (by omega) w hA
end Go.Proofs.YtokfhhngnpbdkaaDoor
