/- asset: the document's bytes of a material. -/
import Derived.Test.YtokfhhngnpbdkaaDoorIT
import Derived.Test.YtokfhhngnpbdkaaDoorIUn
import Derived.Lib.Hide
import Derived.LoopN
import Derived.LoopTactic
import Derived.Deep.Onto
import Derived.Deep.RegionHeld3
import Derived.Deep.QuietTactic
import Derived.BigQuiet
import Derived.Great.BuildSlice
import Derived.StillTailTactics
import Derived.Lib.SliceRun
import Derived.OrdersHeld
namespace Go.Proofs.YtokfhhngnpbdkaaDoor
set_option linter.unusedVariables false
set_option maxRecDepth 2000
set_option linter.unusedSimpArgs false
open Go.RowKit
theorem row_apart {W : World} {X Y b t c : Nat} {T : TypeId} {f : Nat → Int} {x : Int} {cs : List Value} (hr : W.ownsRow X T 1 (.slice (some ⟨b, 0, none⟩) t c) t (nums .u8 f t)) (ht : 0 < t) (hY : Own Y (.int .i64 x :: cs) W) : (Value.slice (some ⟨b, 0, none⟩) t c).ownBlock ≠ some Y := by
  intro e
  have e2 : b = Y := by simpa [Value.ownBlock] using e
  subst e2
  have h1 := (row_has hr).1.at 0 _ (nums_at .u8 f ht)
  have h2 := hY.at 0 _ rfl
  rw [Nat.add_zero] at h1
  rw [h1] at h2
  cases h2
set_option maxHeartbeats 16000000 in
theorem Rbytes_3 (A : Ast) (hz : chkG A.g = 0) (w : World) : Calls Tryd.prog 33 #[(.agg #[.int .i64 3, .slice A.M.qv A.M.nv A.M.cv, .slice A.M.qu A.M.nu A.M.cu, .slice A.M.qt A.M.nt A.M.ct, .int .i64 A.X.S, .slice A.X.q A.X.n A.X.c, .int .i64 (A.g 0), .int .i64 (A.g 1), .int .i64 (A.g 2), .int .i64 (A.g 3), .int .i64 (A.g 4), .int .i64 (A.l 0), .int .i64 (A.l 1), .int .i64 (A.l 2), .int .i64 (A.l 3), .int .i64 (A.l 4), .int .i64 (A.l 5), .int .i64 (A.l 6), .int .i64 (A.l 7), .int .i64 (A.l 8), .int .i64 (A.l 9), .int .i64 (A.l 10), .int .i64 (A.l 11), .int .i64 (A.l 12)])] w fun e w' => (∃ v, e = .returned v ∧ RowR w' v 9 (encG A.g)) ∧ Below w.heap.size w w' := by
  have OK := okG_iff.1 (chkG_zero hz)
  have CL0 : Hid ([Value.int .u8 (A.g 0)] = nums .u8 (encG A.g) 1) := Lib.hid (by
    show _ = [Value.int .u8 (encG A.g 0)]
    rw [encG_0 _ (by omega)])
  have r0 : IntKind.u8.wrap (A.g 0) = A.g 0 := IntWalk.u8_in _ (by omega)
  have XS0 : Hid (nums .u8 (encG A.g) 1 ++ [.int .u8 (A.g 1 % 256), .int .u8 (A.g 1 / 256)] = nums .u8 (encG A.g) (1 + 2)) := Lib.hid (by
    refine nums_append .u8 (encG A.g) (fun i => [A.g 1 % 256, A.g 1 / 256].getD i 0) 1 2 (fun i hi => ?_)
    match i, hi with
    | 0, _ => exact (encG_lo A.g 0 (by decide) 0 (by decide)).trans (dg_00 _)
    | 1, _ => exact (encG_lo A.g 0 (by decide) 1 (by decide)).trans ((dg_1 _).trans (show A.g 1 / 256 % 256 = A.g 1 / 256 by omega)))
  have q0 : 0 ≤ A.g 1 ∧ A.g 1 ≤ 65535 := by omega
  have ta0 : Int.tmod (A.g 1) 256 = A.g 1 % 256 := Int.tmod_eq_emod_of_nonneg (by omega)
  have tb0 : Int.tdiv (A.g 1) 256 = A.g 1 / 256 := Int.tdiv_eq_ediv_of_nonneg (by omega)
  have wa0 : IntKind.i64.wrap (A.g 1 % 256) = A.g 1 % 256 := IntWalk.i64_in _ (by omega)
  have wb0 : IntKind.i64.wrap (A.g 1 / 256) = A.g 1 / 256 := IntWalk.i64_in _ (by omega)
  have ca0 : IntKind.u8.wrap (A.g 1 % 256) = A.g 1 % 256 := IntWalk.u8_in _ (by omega)
  have cb0 : IntKind.u8.wrap (A.g 1 / 256) = A.g 1 / 256 := IntWalk.u8_in _ (by omega)
  have XS1 : Hid (nums .u8 (encG A.g) 3 ++ [.int .u8 (A.g 2 % 256), .int .u8 (A.g 2 / 256)] = nums .u8 (encG A.g) (3 + 2)) := Lib.hid (by
    refine nums_append .u8 (encG A.g) (fun i => [A.g 2 % 256, A.g 2 / 256].getD i 0) 3 2 (fun i hi => ?_)
    match i, hi with
    | 0, _ => exact (encG_lo A.g 1 (by decide) 0 (by decide)).trans (dg_00 _)
    | 1, _ => exact (encG_lo A.g 1 (by decide) 1 (by decide)).trans ((dg_1 _).trans (show A.g 2 / 256 % 256 = A.g 2 / 256 by omega)))
  have q1 : 0 ≤ A.g 2 ∧ A.g 2 ≤ 65535 := by omega
  have ta1 : Int.tmod (A.g 2) 256 = A.g 2 % 256 := Int.tmod_eq_emod_of_nonneg (by omega)
  have tb1 : Int.tdiv (A.g 2) 256 = A.g 2 / 256 := Int.tdiv_eq_ediv_of_nonneg (by omega)
  have wa1 : IntKind.i64.wrap (A.g 2 % 256) = A.g 2 % 256 := IntWalk.i64_in _ (by omega)
  have wb1 : IntKind.i64.wrap (A.g 2 / 256) = A.g 2 / 256 := IntWalk.i64_in _ (by omega)
  have ca1 : IntKind.u8.wrap (A.g 2 % 256) = A.g 2 % 256 := IntWalk.u8_in _ (by omega)
  have cb1 : IntKind.u8.wrap (A.g 2 / 256) = A.g 2 / 256 := IntWalk.u8_in _ (by omega)
  have XS2 : Hid (nums .u8 (encG A.g) 5 ++ [.int .u8 (A.g 3 % 256), .int .u8 (A.g 3 / 256)] = nums .u8 (encG A.g) (5 + 2)) := Lib.hid (by
    refine nums_append .u8 (encG A.g) (fun i => [A.g 3 % 256, A.g 3 / 256].getD i 0) 5 2 (fun i hi => ?_)
    match i, hi with
    | 0, _ => exact (encG_lo A.g 2 (by decide) 0 (by decide)).trans (dg_00 _)
    | 1, _ => exact (encG_lo A.g 2 (by decide) 1 (by decide)).trans ((dg_1 _).trans (show A.g 3 / 256 % 256 = A.g 3 / 256 by omega)))
  have q2 : 0 ≤ A.g 3 ∧ A.g 3 ≤ 65535 := by omega
  have ta2 : Int.tmod (A.g 3) 256 = A.g 3 % 256 := Int.tmod_eq_emod_of_nonneg (by omega)
  have tb2 : Int.tdiv (A.g 3) 256 = A.g 3 / 256 := Int.tdiv_eq_ediv_of_nonneg (by omega)
  have wa2 : IntKind.i64.wrap (A.g 3 % 256) = A.g 3 % 256 := IntWalk.i64_in _ (by omega)
  have wb2 : IntKind.i64.wrap (A.g 3 / 256) = A.g 3 / 256 := IntWalk.i64_in _ (by omega)
  have ca2 : IntKind.u8.wrap (A.g 3 % 256) = A.g 3 % 256 := IntWalk.u8_in _ (by omega)
  have cb2 : IntKind.u8.wrap (A.g 3 / 256) = A.g 3 / 256 := IntWalk.u8_in _ (by omega)
  have XS3 : Hid (nums .u8 (encG A.g) 7 ++ [.int .u8 (A.g 4 % 256), .int .u8 (A.g 4 / 256)] = nums .u8 (encG A.g) (7 + 2)) := Lib.hid (by
    refine nums_append .u8 (encG A.g) (fun i => [A.g 4 % 256, A.g 4 / 256].getD i 0) 7 2 (fun i hi => ?_)
    match i, hi with
    | 0, _ => exact (encG_lo A.g 3 (by decide) 0 (by decide)).trans (dg_00 _)
    | 1, _ => exact (encG_lo A.g 3 (by decide) 1 (by decide)).trans ((dg_1 _).trans (show A.g 4 / 256 % 256 = A.g 4 / 256 by omega)))
  have q3 : 0 ≤ A.g 4 ∧ A.g 4 ≤ 65535 := by omega
  have ta3 : Int.tmod (A.g 4) 256 = A.g 4 % 256 := Int.tmod_eq_emod_of_nonneg (by omega)
  have tb3 : Int.tdiv (A.g 4) 256 = A.g 4 / 256 := Int.tdiv_eq_ediv_of_nonneg (by omega)
  have wa3 : IntKind.i64.wrap (A.g 4 % 256) = A.g 4 % 256 := IntWalk.i64_in _ (by omega)
  have wb3 : IntKind.i64.wrap (A.g 4 / 256) = A.g 4 / 256 := IntWalk.i64_in _ (by omega)
  have ca3 : IntKind.u8.wrap (A.g 4 % 256) = A.g 4 % 256 := IntWalk.u8_in _ (by omega)
  have cb3 : IntKind.u8.wrap (A.g 4 / 256) = A.g 4 / 256 := IntWalk.u8_in _ (by omega)
  have F0_ := Lib.hid (And.intro ta0 (And.intro tb0 (And.intro wa0 (And.intro wb0 (And.intro ca0 cb0)))))
  have F1_ := Lib.hid (And.intro ta1 (And.intro tb1 (And.intro wa1 (And.intro wb1 (And.intro ca1 cb1)))))
  have F2_ := Lib.hid (And.intro ta2 (And.intro tb2 (And.intro wa2 (And.intro wb2 (And.intro ca2 cb2)))))
  have F3_ := Lib.hid (And.intro ta3 (And.intro tb3 (And.intro wa3 (And.intro wb3 (And.intro ca3 cb3)))))
  clear OK hz q0 ta0 tb0 wa0 wb0 ca0 cb0 q1 ta1 tb1 wa1 wb1 ca1 cb1 q2 ta2 tb2 wa2 wb2 ca2 cb2 q3 ta3 tb3 wa3 wb3 ca3 cb3
  generalize encG A.g = EE at *
  obtain ⟨i0, hi, hz0, hz1, hz2⟩ := infoB_parts
  go_enter Tryd.func33, Tryd.ntmps33
  go_upto_region 1 with fail
  obtain ⟨W0, hW⟩ : ∃ W0, W0 = (w.alloc (.cells #[.int .i64 3, .slice A.M.qv A.M.nv A.M.cv, .slice A.M.qu A.M.nu A.M.cu, .slice A.M.qt A.M.nt A.M.ct, .int .i64 A.X.S, .slice A.X.q A.X.n A.X.c, .int .i64 (A.g 0), .int .i64 (A.g 1), .int .i64 (A.g 2), .int .i64 (A.g 3), .int .i64 (A.g 4), .int .i64 (A.l 0), .int .i64 (A.l 1), .int .i64 (A.l 2), .int .i64 (A.l 3), .int .i64 (A.l 4), .int .i64 (A.l 5), .int .i64 (A.l 6), .int .i64 (A.l 7), .int .i64 (A.l 8), .int .i64 (A.l 9), .int .i64 (A.l 10), .int .i64 (A.l 11), .int .i64 (A.l 12)] 37)) := ⟨_, rfl⟩
  have hB0 : Below w.heap.size w W0 := hW ▸ (Below.al (Below.refl _ _))
  have HP : Hid (Own w.heap.size ([.int .i64 3, .slice A.M.qv A.M.nv A.M.cv, .slice A.M.qu A.M.nu A.M.cu, .slice A.M.qt A.M.nt A.M.ct, .int .i64 A.X.S, .slice A.X.q A.X.n A.X.c, .int .i64 (A.g 0), .int .i64 (A.g 1), .int .i64 (A.g 2), .int .i64 (A.g 3), .int .i64 (A.g 4), .int .i64 (A.l 0), .int .i64 (A.l 1), .int .i64 (A.l 2), .int .i64 (A.l 3), .int .i64 (A.l 4), .int .i64 (A.l 5), .int .i64 (A.l 6), .int .i64 (A.l 7), .int .i64 (A.l 8), .int .i64 (A.l 9), .int .i64 (A.l 10), .int .i64 (A.l 11), .int .i64 (A.l 12)]) W0) := Lib.hid (hW ▸ (show Own w.heap.size ([.int .i64 3, .slice A.M.qv A.M.nv A.M.cv, .slice A.M.qu A.M.nu A.M.cu, .slice A.M.qt A.M.nt A.M.ct, .int .i64 A.X.S, .slice A.X.q A.X.n A.X.c, .int .i64 (A.g 0), .int .i64 (A.g 1), .int .i64 (A.g 2), .int .i64 (A.g 3), .int .i64 (A.g 4), .int .i64 (A.l 0), .int .i64 (A.l 1), .int .i64 (A.l 2), .int .i64 (A.l 3), .int .i64 (A.l 4), .int .i64 (A.l 5), .int .i64 (A.l 6), .int .i64 (A.l 7), .int .i64 (A.l 8), .int .i64 (A.l 9), .int .i64 (A.l 10), .int .i64 (A.l 11), .int .i64 (A.l 12)]) (w.alloc (.cells #[.int .i64 3, .slice A.M.qv A.M.nv A.M.cv, .slice A.M.qu A.M.nu A.M.cu, .slice A.M.qt A.M.nt A.M.ct, .int .i64 A.X.S, .slice A.X.q A.X.n A.X.c, .int .i64 (A.g 0), .int .i64 (A.g 1), .int .i64 (A.g 2), .int .i64 (A.g 3), .int .i64 (A.g 4), .int .i64 (A.l 0), .int .i64 (A.l 1), .int .i64 (A.l 2), .int .i64 (A.l 3), .int .i64 (A.l 4), .int .i64 (A.l 5), .int .i64 (A.l 6), .int .i64 (A.l 7), .int .i64 (A.l 8), .int .i64 (A.l 9), .int .i64 (A.l 10), .int .i64 (A.l 11), .int .i64 (A.l 12)] 37)) from Own.newAt (by simp)))
  rw [← hW]
  clear hW
  obtain ⟨P, eP⟩ : ∃ X, X = w.heap.size := ⟨_, rfl⟩
  rw [← eP] at HP ⊢
  have Pw : w.heap.size ≤ P := by omega
  clear eP
  have oP := HP.out
  have P0 := oP.at 0 _ rfl
  have P6 := oP.at 6 _ rfl
  have P7 := oP.at 7 _ rfl
  have P8 := oP.at 8 _ rfl
  have P9 := oP.at 9 _ rfl
  have P10 := oP.at 10 _ rfl
  have Pl := oP.lt
  clear oP
  go_upto_region 9 with (refine wpList_store_mid rfl 31 _ _ rfl _ 0 #[.int .i64 (A.g 0), .int .i64 (A.g 1), .int .i64 (A.g 2), .int .i64 (A.g 3), .int .i64 (A.g 4)] rfl rfl (there_newn (cs := [.int .i64 0, .int .i64 0, .int .i64 0, .int .i64 0, .int .i64 0]) (by simp)) (by kernel_rfl) (by simp [Value.oneCell']) ?_; (obtain ⟨W2, hW2⟩ : ∃ W, W = (W0.alloc (.cells #[.int .i64 0, .int .i64 0, .int .i64 0, .int .i64 0, .int .i64 0] 31)).setCells W0.heap.size 0 ([.int .i64 (A.g 0), .int .i64 (A.g 1), .int .i64 (A.g 2), .int .i64 (A.g 3), .int .i64 (A.g 4)]) := ⟨_, rfl⟩); have hbx : Below W0.heap.size W0 W2 := hW2 ▸ Below.setCells (Below.al (Below.refl _ _)) (Nat.le_refl _) _ _; have HM : Hid (Own W0.heap.size ([.int .i64 (A.g 0), .int .i64 (A.g 1), .int .i64 (A.g 2), .int .i64 (A.g 3), .int .i64 (A.g 4)]) W2) := Lib.hid (hW2 ▸ Own.store (Own.new _ [.int .i64 0, .int .i64 0, .int .i64 0, .int .i64 0, .int .i64 0] _) rfl); change wpList _ _ _ _ _ ((W0.alloc (.cells #[.int .i64 0, .int .i64 0, .int .i64 0, .int .i64 0, .int .i64 0] 31)).setCells W0.heap.size 0 ([.int .i64 (A.g 0), .int .i64 (A.g 1), .int .i64 (A.g 2), .int .i64 (A.g 3), .int .i64 (A.g 4)])); rw [← hW2]; clear hW2)
  clear P0 P6 P7 P8 P9 P10 Pl
  obtain ⟨Q, eQ⟩ : ∃ X, X = W0.heap.size := ⟨_, rfl⟩
  rw [← eQ] at HM ⊢
  clear eQ
  have hB2 := Below.go hB0 hbx
  clear hB0 hbx HP
  have oQ := HM.out
  have Q0 := oQ.at 0 _ rfl
  have Q1 := oQ.at 1 _ rfl
  have Q2 := oQ.at 2 _ rfl
  have Q3 := oQ.at 3 _ rfl
  have Q4 := oQ.at 4 _ rfl
  have Ql := oQ.lt
  clear oQ
  go_upto_region 10 with fail
  have ROW0 := Lib.hid (show (W2.alloc (.cells #[.int .u8 (A.g 0)] 5)).ownsRow W2.heap.size 5 1 (.slice (some ⟨W2.heap.size, 0, none⟩) 1 1) 1 [.int .u8 (A.g 0)] from World.ownsRow_lit W2 #[.int .u8 (A.g 0)] 1 (Nat.le_refl _) (by decide) rfl)
  obtain ⟨V1, hV1⟩ : ∃ W, W = W2.alloc (.cells #[.int .u8 (A.g 0)] 5) := ⟨_, rfl⟩
  rw [← hV1] at ROW0 ⊢
  have hbx : Below W2.heap.size W2 V1 := hV1 ▸ Below.al (Below.refl _ _)
  clear hV1 Q0 Q1 Q2 Q3 Q4 Ql
  have HM1 := Lib.hid (HM.out.later hbx); have hB3 := Below.go hB2 hbx
  have BS : Hid (W2.heap.size ≤ V1.heap.size) := Lib.hid hbx.size
  have BW : Hid (w.heap.size ≤ W2.heap.size) := Lib.hid hB2.size
  obtain ⟨X, eX⟩ : ∃ X, X = W2.heap.size := ⟨_, rfl⟩
  rw [← eX] at ROW0 BS BW ⊢
  clear eX hbx hB2 HM
  have oQ := HM1.out
  have Q0 := oQ.at 0 _ rfl
  have Q1 := oQ.at 1 _ rfl
  have Q2 := oQ.at 2 _ rfl
  have Q3 := oQ.at 3 _ rfl
  have Q4 := oQ.at 4 _ rfl
  have Ql := oQ.lt
  clear oQ
  go_upto_region 11 with fail
  clear Q0 Q1 Q2 Q3 Q4 Ql
  obtain ⟨y0, hW⟩ : ∃ y0, y0 = (V1.alloc (.cells #[.int .i64 (A.g 1), .int .i64 (A.g 2), .int .i64 (A.g 3), .int .i64 (A.g 4)] 3)) := ⟨_, rfl⟩
  have hbx : Below V1.heap.size V1 y0 := hW ▸ (Below.al (Below.refl _ _))
  have HY0 : Hid (Own V1.heap.size ([.int .i64 (A.g 1), .int .i64 (A.g 2), .int .i64 (A.g 3), .int .i64 (A.g 4)]) y0) := Lib.hid (hW ▸ (show Own V1.heap.size ([.int .i64 (A.g 1), .int .i64 (A.g 2), .int .i64 (A.g 3), .int .i64 (A.g 4)]) (V1.alloc (.cells #[.int .i64 (A.g 1), .int .i64 (A.g 2), .int .i64 (A.g 3), .int .i64 (A.g 4)] 3)) from Own.newAt (by simp)))
  rw [← hW]
  clear hW
  obtain ⟨Y, eY⟩ : ∃ X, X = V1.heap.size := ⟨_, rfl⟩
  rw [← eY] at HY0 ⊢
  have Yw : V1.heap.size ≤ Y := by omega
  clear eY
  have ROWa := Lib.hid (row_later ROW0.out hbx); have HB0 := Lib.hid (Below.go hB3 hbx); have BS0 := Lib.hid (Nat.le_trans BS.out hbx.size)
  have nY : Hid (X ≤ Y) := Lib.hid (Nat.le_trans BS.out Yw)
  clear ROW0 hB3 hbx BS HM1 Yw
  have ROW0 := ROWa
  clear ROWa
  rw [CL0.out] at ROW0
  go_wp2_with (fail)
  refine wp_loop_rounds 5 ?_
  rw [rounds_succ]
  go_upto_region 14 with fail
  obtain ⟨ta, tb, wa, wb, ca, cb⟩ := F0_.out
  refine wp_region_held_drew (S := fun w' => Own Y ([.int .i64 (A.g 1), .int .i64 (A.g 2), .int .i64 (A.g 3), .int .i64 (A.g 4)]) w') (by kernel_rfl) HY0.out.drew (fun hb0_ => ?_)
  refine wpAnyH_take (i := 0) (v := ?_) rfl (by kernel_rfl) (by kernel_rfl) (by kernel_rfl) (fun _ _ _ h => h) (Or.inl ⟨by rfl, ?_⟩) (by assumption) ?_
  rotate_left
  · intro w' hS; go_simp; try (with_reducible rfl)
  try simp only [Act.put, List.getElem_toArray, List.getElem_cons_zero, List.getElem_cons_succ, List.setIfInBounds_toArray, List.set_cons_zero, List.set_cons_succ]
  refine wpAnyH_take (i := 1) (v := ?_) rfl (by kernel_rfl) (by kernel_rfl) (by kernel_rfl) (fun _ _ _ h => h) (Or.inl ⟨by rfl, ?_⟩) (by assumption) ?_
  rotate_left
  · intro w' hS; go_simp; try (with_reducible rfl)
  try simp only [Act.put, List.getElem_toArray, List.getElem_cons_zero, List.getElem_cons_succ, List.setIfInBounds_toArray, List.set_cons_zero, List.set_cons_succ]
  refine wpAnyH_take (i := 2) (v := ?_) rfl (by kernel_rfl) (by kernel_rfl) (by kernel_rfl) (fun _ _ _ h => h) (Or.inl ⟨by rfl, ?_⟩) (by assumption) ?_
  rotate_left
  · intro w' hS; go_simp; try (with_reducible rfl)
  try simp only [Act.put, List.getElem_toArray, List.getElem_cons_zero, List.getElem_cons_succ, List.setIfInBounds_toArray, List.set_cons_zero, List.set_cons_succ]
  refine wpAnyH_take (i := 3) (v := ?_) rfl (by kernel_rfl) (by kernel_rfl) (by kernel_rfl) (fun _ _ _ h => h) (Or.inl ⟨by rfl, ?_⟩) (by assumption) ?_
  rotate_left
  · intro w' hS; go_simp; try (with_reducible rfl)
  try simp only [Act.put, List.getElem_toArray, List.getElem_cons_zero, List.getElem_cons_succ, List.setIfInBounds_toArray, List.set_cons_zero, List.set_cons_succ]
  refine wpAnyH_take (i := 4) (v := ?_) rfl (by kernel_rfl) (by kernel_rfl) (by kernel_rfl) (fun _ _ _ h => h) (Or.inl ⟨by rfl, ?_⟩) (by assumption) ?_
  rotate_left
  · intro w' hS; have q := hS.at 0 _ rfl; have ql := hS.lt; go_simp; try (with_reducible rfl)
  try simp only [Act.put, List.getElem_toArray, List.getElem_cons_zero, List.getElem_cons_succ, List.setIfInBounds_toArray, List.set_cons_zero, List.set_cons_succ]
  refine wpAnyH_take (i := 5) (v := ?_) rfl (by kernel_rfl) (by kernel_rfl) (by kernel_rfl) (fun _ _ _ h => h) (Or.inl ⟨by rfl, ?_⟩) (by assumption) ?_
  rotate_left
  · intro w' hS; go_simp; try (with_reducible rfl)
  try simp only [Act.put, List.getElem_toArray, List.getElem_cons_zero, List.getElem_cons_succ, List.setIfInBounds_toArray, List.set_cons_zero, List.set_cons_succ]
  refine wpAnyH_take (i := 6) (v := ?_) rfl (by kernel_rfl) (by kernel_rfl) (by kernel_rfl) (fun _ _ _ h => h) (Or.inl ⟨by rfl, ?_⟩) (by assumption) ?_
  rotate_left
  · intro w' hS; go_simp; try (with_reducible rfl)
  try simp only [Act.put, List.getElem_toArray, List.getElem_cons_zero, List.getElem_cons_succ, List.setIfInBounds_toArray, List.set_cons_zero, List.set_cons_succ]
  refine wpAnyH_take (i := 7) (v := ?_) rfl (by kernel_rfl) (by kernel_rfl) (by kernel_rfl) (fun _ _ _ h => h) (Or.inl ⟨by rfl, ?_⟩) (by assumption) ?_
  rotate_left
  · intro w' hS; go_simp; try (with_reducible rfl)
  try simp only [Act.put, List.getElem_toArray, List.getElem_cons_zero, List.getElem_cons_succ, List.setIfInBounds_toArray, List.set_cons_zero, List.set_cons_succ]
  refine wpAnyH_take (i := 8) (v := ?_) rfl (by kernel_rfl) (by kernel_rfl) (by kernel_rfl) (fun _ _ _ h => h) (Or.inl ⟨by rfl, ?_⟩) (by assumption) ?_
  rotate_left
  · intro w' hS; go_simp; try (with_reducible rfl)
  try simp only [Act.put, List.getElem_toArray, List.getElem_cons_zero, List.getElem_cons_succ, List.setIfInBounds_toArray, List.set_cons_zero, List.set_cons_succ]
  refine wpAnyH_take (i := 9) (v := ?_) rfl (by kernel_rfl) (by kernel_rfl) (by kernel_rfl) (fun _ _ _ h => h) (Or.inl ⟨by rfl, ?_⟩) (by assumption) ?_
  rotate_left
  · intro w' hS; go_simp; try (with_reducible rfl)
  try simp only [Act.put, List.getElem_toArray, List.getElem_cons_zero, List.getElem_cons_succ, List.setIfInBounds_toArray, List.set_cons_zero, List.set_cons_succ]
  refine wpAnyH_take (i := 10) (v := ?_) rfl (by kernel_rfl) (by kernel_rfl) (by kernel_rfl) (fun _ _ _ h => h) (Or.inl ⟨by rfl, ?_⟩) (by assumption) ?_
  rotate_left
  · intro w' hS; have q := hS.at 0 _ rfl; have ql := hS.lt; go_simp; try (with_reducible rfl)
  try simp only [Act.put, List.getElem_toArray, List.getElem_cons_zero, List.getElem_cons_succ, List.setIfInBounds_toArray, List.set_cons_zero, List.set_cons_succ]
  refine wpAnyH_take (i := 11) (v := ?_) rfl (by kernel_rfl) (by kernel_rfl) (by kernel_rfl) (fun _ _ _ h => h) (Or.inl ⟨by rfl, ?_⟩) (by assumption) ?_
  rotate_left
  · intro w' hS; go_simp; try (with_reducible rfl)
  try simp only [Act.put, List.getElem_toArray, List.getElem_cons_zero, List.getElem_cons_succ, List.setIfInBounds_toArray, List.set_cons_zero, List.set_cons_succ]
  refine wpAnyH_take (i := 12) (v := ?_) rfl (by kernel_rfl) (by kernel_rfl) (by kernel_rfl) (fun _ _ _ h => h) (Or.inl ⟨by rfl, ?_⟩) (by assumption) ?_
  rotate_left
  · intro w' hS; go_simp; try (with_reducible rfl)
  try simp only [Act.put, List.getElem_toArray, List.getElem_cons_zero, List.getElem_cons_succ, List.setIfInBounds_toArray, List.set_cons_zero, List.set_cons_succ]
  refine wpAnyH_ready (rs := [13]) (by kernel_rfl) (by simp) ?_
  refine AllReadyH.cons rfl (fun K hK => ?_) AllReadyH.nil
  go_simp
  refine hK.out _ _ hb0_.alloc (fun _ => ?_)
  clear hK K
  try simp only [Act.put, List.getElem_toArray, List.getElem_cons_zero, List.getElem_cons_succ, List.setIfInBounds_toArray, List.set_cons_zero, List.set_cons_succ]
  have ROWd := row_later ROW0.out (Below.al (o := .cells #[.int .u8 (A.g 1 % 256), .int .u8 (A.g 1 / 256)] 5) (Below.refl _ _).drew)
  have hsz : X ≤ (y0.drew.alloc (.cells #[.int .u8 (A.g 1 % 256), .int .u8 (A.g 1 / 256)] 5)).heap.size := Nat.le_trans BS0.out (Below.al (Below.refl _ _).drew).size
  refine wpAnyH_ready (rs := [14]) (by kernel_rfl) (by simp) ?_
  refine AllReadyH.cons rfl (fun K hK => ?_) AllReadyH.nil
  refine step_append_to rfl (.tmp 59) (.tmp 72) 48 rfl 5 i0 (.int .u8 0) 1 1 Tryd.underlying48 hi hz0 hz1 hz2 rfl (by decide) X (.slice (some ⟨X, 0, none⟩) 1 1) 1 (nums .u8 EE 1) rfl ROWd ⟨y0.drew.heap.size, 0, none⟩ 2 2 [.int .u8 (A.g 1 % 256), .int .u8 (A.g 1 / 256)] rfl rfl (Own.newAt (by rfl)).news (by simp [Value.oneCell']) (by decide) (by decide) hsz ?_
  intro v' w6 hrow hgr
  obtain ⟨X1, c1, rfl, _, _⟩ := row_blk hrow (by decide)
  rw [XS0.out] at hrow
  have hYa := (Own.alloc (o := .cells #[.int .u8 (A.g 1 % 256), .int .u8 (A.g 1 / 256)] 5) HY0.out.drew)
  have hYb := hYa.grown hgr (row_apart ROWd (by decide) hYa)
  have HB1 := Lib.hid (Below.gro (Below.al (o := .cells #[.int .u8 (A.g 1 % 256), .int .u8 (A.g 1 / 256)] 5) HB0.out.drew) hgr ROWd BW.out)
  have BS1 := Lib.hid (Nat.le_trans hsz hgr.size)
  have ROW1 := Lib.hid hrow; have HY1 := Lib.hid hYb
  refine hK.out _ _ hYb (fun _ => ?_)
  clear hK K hrow hgr hYa ROWd hsz hb0_ ROW0 HB0 BS0 HY0 XS0 F0_ ta tb wa wb ca cb
  try simp only [Act.put, List.getElem_toArray, List.getElem_cons_zero, List.getElem_cons_succ, List.setIfInBounds_toArray, List.set_cons_zero, List.set_cons_succ]
  refine wpAnyH_take (i := 15) (v := ?_) rfl (by kernel_rfl) (by kernel_rfl) (by kernel_rfl) (fun _ _ _ h => h) (Or.inl ⟨by rfl, ?_⟩) (by assumption) ?_
  rotate_left
  · intro w' hS; go_simp; try (with_reducible rfl)
  try simp only [Act.put, List.getElem_toArray, List.getElem_cons_zero, List.getElem_cons_succ, List.setIfInBounds_toArray, List.set_cons_zero, List.set_cons_succ]
  refine wpAnyH_done (by kernel_rfl) ?_ _
  clear hYb
  obtain ⟨y1, ey⟩ : ∃ x, x = w6 := ⟨_, rfl⟩
  subst ey
  go_wp2_with (fail)
  rw [rounds_succ]
  go_upto_region 14 with fail
  obtain ⟨ta, tb, wa, wb, ca, cb⟩ := F1_.out
  refine wp_region_held_drew (S := fun w' => Own Y ([.int .i64 (A.g 1), .int .i64 (A.g 2), .int .i64 (A.g 3), .int .i64 (A.g 4)]) w') (by kernel_rfl) HY1.out.drew (fun hb0_ => ?_)
  refine wpAnyH_take (i := 0) (v := ?_) rfl (by kernel_rfl) (by kernel_rfl) (by kernel_rfl) (fun _ _ _ h => h) (Or.inl ⟨by rfl, ?_⟩) (by assumption) ?_
  rotate_left
  · intro w' hS; go_simp; try (with_reducible rfl)
  try simp only [Act.put, List.getElem_toArray, List.getElem_cons_zero, List.getElem_cons_succ, List.setIfInBounds_toArray, List.set_cons_zero, List.set_cons_succ]
  refine wpAnyH_take (i := 1) (v := ?_) rfl (by kernel_rfl) (by kernel_rfl) (by kernel_rfl) (fun _ _ _ h => h) (Or.inl ⟨by rfl, ?_⟩) (by assumption) ?_
  rotate_left
  · intro w' hS; go_simp; try (with_reducible rfl)
  try simp only [Act.put, List.getElem_toArray, List.getElem_cons_zero, List.getElem_cons_succ, List.setIfInBounds_toArray, List.set_cons_zero, List.set_cons_succ]
  refine wpAnyH_take (i := 2) (v := ?_) rfl (by kernel_rfl) (by kernel_rfl) (by kernel_rfl) (fun _ _ _ h => h) (Or.inl ⟨by rfl, ?_⟩) (by assumption) ?_
  rotate_left
  · intro w' hS; go_simp; try (with_reducible rfl)
  try simp only [Act.put, List.getElem_toArray, List.getElem_cons_zero, List.getElem_cons_succ, List.setIfInBounds_toArray, List.set_cons_zero, List.set_cons_succ]
  refine wpAnyH_take (i := 3) (v := ?_) rfl (by kernel_rfl) (by kernel_rfl) (by kernel_rfl) (fun _ _ _ h => h) (Or.inl ⟨by rfl, ?_⟩) (by assumption) ?_
  rotate_left
  · intro w' hS; go_simp; try (with_reducible rfl)
  try simp only [Act.put, List.getElem_toArray, List.getElem_cons_zero, List.getElem_cons_succ, List.setIfInBounds_toArray, List.set_cons_zero, List.set_cons_succ]
  refine wpAnyH_take (i := 4) (v := ?_) rfl (by kernel_rfl) (by kernel_rfl) (by kernel_rfl) (fun _ _ _ h => h) (Or.inl ⟨by rfl, ?_⟩) (by assumption) ?_
  rotate_left
  · intro w' hS; have q := hS.at 1 _ rfl; have ql := hS.lt; go_simp; try (with_reducible rfl)
  try simp only [Act.put, List.getElem_toArray, List.getElem_cons_zero, List.getElem_cons_succ, List.setIfInBounds_toArray, List.set_cons_zero, List.set_cons_succ]
  refine wpAnyH_take (i := 5) (v := ?_) rfl (by kernel_rfl) (by kernel_rfl) (by kernel_rfl) (fun _ _ _ h => h) (Or.inl ⟨by rfl, ?_⟩) (by assumption) ?_
  rotate_left
  · intro w' hS; go_simp; try (with_reducible rfl)
  try simp only [Act.put, List.getElem_toArray, List.getElem_cons_zero, List.getElem_cons_succ, List.setIfInBounds_toArray, List.set_cons_zero, List.set_cons_succ]
  refine wpAnyH_take (i := 6) (v := ?_) rfl (by kernel_rfl) (by kernel_rfl) (by kernel_rfl) (fun _ _ _ h => h) (Or.inl ⟨by rfl, ?_⟩) (by assumption) ?_
  rotate_left
  · intro w' hS; go_simp; try (with_reducible rfl)
  try simp only [Act.put, List.getElem_toArray, List.getElem_cons_zero, List.getElem_cons_succ, List.setIfInBounds_toArray, List.set_cons_zero, List.set_cons_succ]
  refine wpAnyH_take (i := 7) (v := ?_) rfl (by kernel_rfl) (by kernel_rfl) (by kernel_rfl) (fun _ _ _ h => h) (Or.inl ⟨by rfl, ?_⟩) (by assumption) ?_
  rotate_left
  · intro w' hS; go_simp; try (with_reducible rfl)
  try simp only [Act.put, List.getElem_toArray, List.getElem_cons_zero, List.getElem_cons_succ, List.setIfInBounds_toArray, List.set_cons_zero, List.set_cons_succ]
  refine wpAnyH_take (i := 8) (v := ?_) rfl (by kernel_rfl) (by kernel_rfl) (by kernel_rfl) (fun _ _ _ h => h) (Or.inl ⟨by rfl, ?_⟩) (by assumption) ?_
  rotate_left
  · intro w' hS; go_simp; try (with_reducible rfl)
  try simp only [Act.put, List.getElem_toArray, List.getElem_cons_zero, List.getElem_cons_succ, List.setIfInBounds_toArray, List.set_cons_zero, List.set_cons_succ]
  refine wpAnyH_take (i := 9) (v := ?_) rfl (by kernel_rfl) (by kernel_rfl) (by kernel_rfl) (fun _ _ _ h => h) (Or.inl ⟨by rfl, ?_⟩) (by assumption) ?_
  rotate_left
  · intro w' hS; go_simp; try (with_reducible rfl)
  try simp only [Act.put, List.getElem_toArray, List.getElem_cons_zero, List.getElem_cons_succ, List.setIfInBounds_toArray, List.set_cons_zero, List.set_cons_succ]
  refine wpAnyH_take (i := 10) (v := ?_) rfl (by kernel_rfl) (by kernel_rfl) (by kernel_rfl) (fun _ _ _ h => h) (Or.inl ⟨by rfl, ?_⟩) (by assumption) ?_
  rotate_left
  · intro w' hS; have q := hS.at 1 _ rfl; have ql := hS.lt; go_simp; try (with_reducible rfl)
  try simp only [Act.put, List.getElem_toArray, List.getElem_cons_zero, List.getElem_cons_succ, List.setIfInBounds_toArray, List.set_cons_zero, List.set_cons_succ]
  refine wpAnyH_take (i := 11) (v := ?_) rfl (by kernel_rfl) (by kernel_rfl) (by kernel_rfl) (fun _ _ _ h => h) (Or.inl ⟨by rfl, ?_⟩) (by assumption) ?_
  rotate_left
  · intro w' hS; go_simp; try (with_reducible rfl)
  try simp only [Act.put, List.getElem_toArray, List.getElem_cons_zero, List.getElem_cons_succ, List.setIfInBounds_toArray, List.set_cons_zero, List.set_cons_succ]
  refine wpAnyH_take (i := 12) (v := ?_) rfl (by kernel_rfl) (by kernel_rfl) (by kernel_rfl) (fun _ _ _ h => h) (Or.inl ⟨by rfl, ?_⟩) (by assumption) ?_
  rotate_left
  · intro w' hS; go_simp; try (with_reducible rfl)
  try simp only [Act.put, List.getElem_toArray, List.getElem_cons_zero, List.getElem_cons_succ, List.setIfInBounds_toArray, List.set_cons_zero, List.set_cons_succ]
  refine wpAnyH_ready (rs := [13]) (by kernel_rfl) (by simp) ?_
  refine AllReadyH.cons rfl (fun K hK => ?_) AllReadyH.nil
  go_simp
  refine hK.out _ _ hb0_.alloc (fun _ => ?_)
  clear hK K
  try simp only [Act.put, List.getElem_toArray, List.getElem_cons_zero, List.getElem_cons_succ, List.setIfInBounds_toArray, List.set_cons_zero, List.set_cons_succ]
  have ROWd := row_later ROW1.out (Below.al (o := .cells #[.int .u8 (A.g 2 % 256), .int .u8 (A.g 2 / 256)] 5) (Below.refl _ _).drew)
  have hsz : X ≤ (y1.drew.alloc (.cells #[.int .u8 (A.g 2 % 256), .int .u8 (A.g 2 / 256)] 5)).heap.size := Nat.le_trans BS1.out (Below.al (Below.refl _ _).drew).size
  refine wpAnyH_ready (rs := [14]) (by kernel_rfl) (by simp) ?_
  refine AllReadyH.cons rfl (fun K hK => ?_) AllReadyH.nil
  refine step_append_to rfl (.tmp 59) (.tmp 72) 48 rfl 5 i0 (.int .u8 0) 1 1 Tryd.underlying48 hi hz0 hz1 hz2 rfl (by decide) X (.slice (some ⟨X1, 0, none⟩) 3 c1) 3 (nums .u8 EE 3) rfl ROWd ⟨y1.drew.heap.size, 0, none⟩ 2 2 [.int .u8 (A.g 2 % 256), .int .u8 (A.g 2 / 256)] rfl rfl (Own.newAt (by rfl)).news (by simp [Value.oneCell']) (by decide) (by decide) hsz ?_
  intro v' w6 hrow hgr
  obtain ⟨X2, c2, rfl, _, _⟩ := row_blk hrow (by decide)
  rw [XS1.out] at hrow
  have hYa := (Own.alloc (o := .cells #[.int .u8 (A.g 2 % 256), .int .u8 (A.g 2 / 256)] 5) HY1.out.drew)
  have hYb := hYa.grown hgr (row_apart ROWd (by decide) hYa)
  have HB2 := Lib.hid (Below.gro (Below.al (o := .cells #[.int .u8 (A.g 2 % 256), .int .u8 (A.g 2 / 256)] 5) HB1.out.drew) hgr ROWd BW.out)
  have BS2 := Lib.hid (Nat.le_trans hsz hgr.size)
  have ROW2 := Lib.hid hrow; have HY2 := Lib.hid hYb
  refine hK.out _ _ hYb (fun _ => ?_)
  clear hK K hrow hgr hYa ROWd hsz hb0_ ROW1 HB1 BS1 HY1 XS1 F1_ ta tb wa wb ca cb
  try simp only [Act.put, List.getElem_toArray, List.getElem_cons_zero, List.getElem_cons_succ, List.setIfInBounds_toArray, List.set_cons_zero, List.set_cons_succ]
  refine wpAnyH_take (i := 15) (v := ?_) rfl (by kernel_rfl) (by kernel_rfl) (by kernel_rfl) (fun _ _ _ h => h) (Or.inl ⟨by rfl, ?_⟩) (by assumption) ?_
  rotate_left
  · intro w' hS; go_simp; try (with_reducible rfl)
  try simp only [Act.put, List.getElem_toArray, List.getElem_cons_zero, List.getElem_cons_succ, List.setIfInBounds_toArray, List.set_cons_zero, List.set_cons_succ]
  refine wpAnyH_done (by kernel_rfl) ?_ _
  clear hYb
  obtain ⟨y2, ey⟩ : ∃ x, x = w6 := ⟨_, rfl⟩
  subst ey
  go_wp2_with (fail)
  rw [rounds_succ]
  go_upto_region 14 with fail
  obtain ⟨ta, tb, wa, wb, ca, cb⟩ := F2_.out
  refine wp_region_held_drew (S := fun w' => Own Y ([.int .i64 (A.g 1), .int .i64 (A.g 2), .int .i64 (A.g 3), .int .i64 (A.g 4)]) w') (by kernel_rfl) HY2.out.drew (fun hb0_ => ?_)
  refine wpAnyH_take (i := 0) (v := ?_) rfl (by kernel_rfl) (by kernel_rfl) (by kernel_rfl) (fun _ _ _ h => h) (Or.inl ⟨by rfl, ?_⟩) (by assumption) ?_
  rotate_left
  · intro w' hS; go_simp; try (with_reducible rfl)
  try simp only [Act.put, List.getElem_toArray, List.getElem_cons_zero, List.getElem_cons_succ, List.setIfInBounds_toArray, List.set_cons_zero, List.set_cons_succ]
  refine wpAnyH_take (i := 1) (v := ?_) rfl (by kernel_rfl) (by kernel_rfl) (by kernel_rfl) (fun _ _ _ h => h) (Or.inl ⟨by rfl, ?_⟩) (by assumption) ?_
  rotate_left
  · intro w' hS; go_simp; try (with_reducible rfl)
  try simp only [Act.put, List.getElem_toArray, List.getElem_cons_zero, List.getElem_cons_succ, List.setIfInBounds_toArray, List.set_cons_zero, List.set_cons_succ]
  refine wpAnyH_take (i := 2) (v := ?_) rfl (by kernel_rfl) (by kernel_rfl) (by kernel_rfl) (fun _ _ _ h => h) (Or.inl ⟨by rfl, ?_⟩) (by assumption) ?_
  rotate_left
  · intro w' hS; go_simp; try (with_reducible rfl)
  try simp only [Act.put, List.getElem_toArray, List.getElem_cons_zero, List.getElem_cons_succ, List.setIfInBounds_toArray, List.set_cons_zero, List.set_cons_succ]
  refine wpAnyH_take (i := 3) (v := ?_) rfl (by kernel_rfl) (by kernel_rfl) (by kernel_rfl) (fun _ _ _ h => h) (Or.inl ⟨by rfl, ?_⟩) (by assumption) ?_
  rotate_left
  · intro w' hS; go_simp; try (with_reducible rfl)
  try simp only [Act.put, List.getElem_toArray, List.getElem_cons_zero, List.getElem_cons_succ, List.setIfInBounds_toArray, List.set_cons_zero, List.set_cons_succ]
  refine wpAnyH_take (i := 4) (v := ?_) rfl (by kernel_rfl) (by kernel_rfl) (by kernel_rfl) (fun _ _ _ h => h) (Or.inl ⟨by rfl, ?_⟩) (by assumption) ?_
  rotate_left
  · intro w' hS; have q := hS.at 2 _ rfl; have ql := hS.lt; go_simp; try (with_reducible rfl)
  try simp only [Act.put, List.getElem_toArray, List.getElem_cons_zero, List.getElem_cons_succ, List.setIfInBounds_toArray, List.set_cons_zero, List.set_cons_succ]
  refine wpAnyH_take (i := 5) (v := ?_) rfl (by kernel_rfl) (by kernel_rfl) (by kernel_rfl) (fun _ _ _ h => h) (Or.inl ⟨by rfl, ?_⟩) (by assumption) ?_
  rotate_left
  · intro w' hS; go_simp; try (with_reducible rfl)
  try simp only [Act.put, List.getElem_toArray, List.getElem_cons_zero, List.getElem_cons_succ, List.setIfInBounds_toArray, List.set_cons_zero, List.set_cons_succ]
  refine wpAnyH_take (i := 6) (v := ?_) rfl (by kernel_rfl) (by kernel_rfl) (by kernel_rfl) (fun _ _ _ h => h) (Or.inl ⟨by rfl, ?_⟩) (by assumption) ?_
  rotate_left
  · intro w' hS; go_simp; try (with_reducible rfl)
  try simp only [Act.put, List.getElem_toArray, List.getElem_cons_zero, List.getElem_cons_succ, List.setIfInBounds_toArray, List.set_cons_zero, List.set_cons_succ]
  refine wpAnyH_take (i := 7) (v := ?_) rfl (by kernel_rfl) (by kernel_rfl) (by kernel_rfl) (fun _ _ _ h => h) (Or.inl ⟨by rfl, ?_⟩) (by assumption) ?_
  rotate_left
  · intro w' hS; go_simp; try (with_reducible rfl)
  try simp only [Act.put, List.getElem_toArray, List.getElem_cons_zero, List.getElem_cons_succ, List.setIfInBounds_toArray, List.set_cons_zero, List.set_cons_succ]
  refine wpAnyH_take (i := 8) (v := ?_) rfl (by kernel_rfl) (by kernel_rfl) (by kernel_rfl) (fun _ _ _ h => h) (Or.inl ⟨by rfl, ?_⟩) (by assumption) ?_
  rotate_left
  · intro w' hS; go_simp; try (with_reducible rfl)
  try simp only [Act.put, List.getElem_toArray, List.getElem_cons_zero, List.getElem_cons_succ, List.setIfInBounds_toArray, List.set_cons_zero, List.set_cons_succ]
  refine wpAnyH_take (i := 9) (v := ?_) rfl (by kernel_rfl) (by kernel_rfl) (by kernel_rfl) (fun _ _ _ h => h) (Or.inl ⟨by rfl, ?_⟩) (by assumption) ?_
  rotate_left
  · intro w' hS; go_simp; try (with_reducible rfl)
  try simp only [Act.put, List.getElem_toArray, List.getElem_cons_zero, List.getElem_cons_succ, List.setIfInBounds_toArray, List.set_cons_zero, List.set_cons_succ]
  refine wpAnyH_take (i := 10) (v := ?_) rfl (by kernel_rfl) (by kernel_rfl) (by kernel_rfl) (fun _ _ _ h => h) (Or.inl ⟨by rfl, ?_⟩) (by assumption) ?_
  rotate_left
  · intro w' hS; have q := hS.at 2 _ rfl; have ql := hS.lt; go_simp; try (with_reducible rfl)
  try simp only [Act.put, List.getElem_toArray, List.getElem_cons_zero, List.getElem_cons_succ, List.setIfInBounds_toArray, List.set_cons_zero, List.set_cons_succ]
  refine wpAnyH_take (i := 11) (v := ?_) rfl (by kernel_rfl) (by kernel_rfl) (by kernel_rfl) (fun _ _ _ h => h) (Or.inl ⟨by rfl, ?_⟩) (by assumption) ?_
  rotate_left
  · intro w' hS; go_simp; try (with_reducible rfl)
  try simp only [Act.put, List.getElem_toArray, List.getElem_cons_zero, List.getElem_cons_succ, List.setIfInBounds_toArray, List.set_cons_zero, List.set_cons_succ]
  refine wpAnyH_take (i := 12) (v := ?_) rfl (by kernel_rfl) (by kernel_rfl) (by kernel_rfl) (fun _ _ _ h => h) (Or.inl ⟨by rfl, ?_⟩) (by assumption) ?_
  rotate_left
  · intro w' hS; go_simp; try (with_reducible rfl)
  try simp only [Act.put, List.getElem_toArray, List.getElem_cons_zero, List.getElem_cons_succ, List.setIfInBounds_toArray, List.set_cons_zero, List.set_cons_succ]
  refine wpAnyH_ready (rs := [13]) (by kernel_rfl) (by simp) ?_
  refine AllReadyH.cons rfl (fun K hK => ?_) AllReadyH.nil
  go_simp
  refine hK.out _ _ hb0_.alloc (fun _ => ?_)
  clear hK K
  try simp only [Act.put, List.getElem_toArray, List.getElem_cons_zero, List.getElem_cons_succ, List.setIfInBounds_toArray, List.set_cons_zero, List.set_cons_succ]
  have ROWd := row_later ROW2.out (Below.al (o := .cells #[.int .u8 (A.g 3 % 256), .int .u8 (A.g 3 / 256)] 5) (Below.refl _ _).drew)
  have hsz : X ≤ (y2.drew.alloc (.cells #[.int .u8 (A.g 3 % 256), .int .u8 (A.g 3 / 256)] 5)).heap.size := Nat.le_trans BS2.out (Below.al (Below.refl _ _).drew).size
  refine wpAnyH_ready (rs := [14]) (by kernel_rfl) (by simp) ?_
  refine AllReadyH.cons rfl (fun K hK => ?_) AllReadyH.nil
  refine step_append_to rfl (.tmp 59) (.tmp 72) 48 rfl 5 i0 (.int .u8 0) 1 1 Tryd.underlying48 hi hz0 hz1 hz2 rfl (by decide) X (.slice (some ⟨X2, 0, none⟩) 5 c2) 5 (nums .u8 EE 5) rfl ROWd ⟨y2.drew.heap.size, 0, none⟩ 2 2 [.int .u8 (A.g 3 % 256), .int .u8 (A.g 3 / 256)] rfl rfl (Own.newAt (by rfl)).news (by simp [Value.oneCell']) (by decide) (by decide) hsz ?_
  intro v' w6 hrow hgr
  obtain ⟨X3, c3, rfl, _, _⟩ := row_blk hrow (by decide)
  rw [XS2.out] at hrow
  have hYa := (Own.alloc (o := .cells #[.int .u8 (A.g 3 % 256), .int .u8 (A.g 3 / 256)] 5) HY2.out.drew)
  have hYb := hYa.grown hgr (row_apart ROWd (by decide) hYa)
  have HB3 := Lib.hid (Below.gro (Below.al (o := .cells #[.int .u8 (A.g 3 % 256), .int .u8 (A.g 3 / 256)] 5) HB2.out.drew) hgr ROWd BW.out)
  have BS3 := Lib.hid (Nat.le_trans hsz hgr.size)
  have ROW3 := Lib.hid hrow; have HY3 := Lib.hid hYb
  refine hK.out _ _ hYb (fun _ => ?_)
  clear hK K hrow hgr hYa ROWd hsz hb0_ ROW2 HB2 BS2 HY2 XS2 F2_ ta tb wa wb ca cb
  try simp only [Act.put, List.getElem_toArray, List.getElem_cons_zero, List.getElem_cons_succ, List.setIfInBounds_toArray, List.set_cons_zero, List.set_cons_succ]
  refine wpAnyH_take (i := 15) (v := ?_) rfl (by kernel_rfl) (by kernel_rfl) (by kernel_rfl) (fun _ _ _ h => h) (Or.inl ⟨by rfl, ?_⟩) (by assumption) ?_
  rotate_left
  · intro w' hS; go_simp; try (with_reducible rfl)
  try simp only [Act.put, List.getElem_toArray, List.getElem_cons_zero, List.getElem_cons_succ, List.setIfInBounds_toArray, List.set_cons_zero, List.set_cons_succ]
  refine wpAnyH_done (by kernel_rfl) ?_ _
  clear hYb
  obtain ⟨y3, ey⟩ : ∃ x, x = w6 := ⟨_, rfl⟩
  subst ey
  go_wp2_with (fail)
  rw [rounds_succ]
  go_upto_region 14 with fail
  obtain ⟨ta, tb, wa, wb, ca, cb⟩ := F3_.out
  refine wp_region_held_drew (S := fun w' => Own Y ([.int .i64 (A.g 1), .int .i64 (A.g 2), .int .i64 (A.g 3), .int .i64 (A.g 4)]) w') (by kernel_rfl) HY3.out.drew (fun hb0_ => ?_)
  refine wpAnyH_take (i := 0) (v := ?_) rfl (by kernel_rfl) (by kernel_rfl) (by kernel_rfl) (fun _ _ _ h => h) (Or.inl ⟨by rfl, ?_⟩) (by assumption) ?_
  rotate_left
  · intro w' hS; go_simp; try (with_reducible rfl)
  try simp only [Act.put, List.getElem_toArray, List.getElem_cons_zero, List.getElem_cons_succ, List.setIfInBounds_toArray, List.set_cons_zero, List.set_cons_succ]
  refine wpAnyH_take (i := 1) (v := ?_) rfl (by kernel_rfl) (by kernel_rfl) (by kernel_rfl) (fun _ _ _ h => h) (Or.inl ⟨by rfl, ?_⟩) (by assumption) ?_
  rotate_left
  · intro w' hS; go_simp; try (with_reducible rfl)
  try simp only [Act.put, List.getElem_toArray, List.getElem_cons_zero, List.getElem_cons_succ, List.setIfInBounds_toArray, List.set_cons_zero, List.set_cons_succ]
  refine wpAnyH_take (i := 2) (v := ?_) rfl (by kernel_rfl) (by kernel_rfl) (by kernel_rfl) (fun _ _ _ h => h) (Or.inl ⟨by rfl, ?_⟩) (by assumption) ?_
  rotate_left
  · intro w' hS; go_simp; try (with_reducible rfl)
  try simp only [Act.put, List.getElem_toArray, List.getElem_cons_zero, List.getElem_cons_succ, List.setIfInBounds_toArray, List.set_cons_zero, List.set_cons_succ]
  refine wpAnyH_take (i := 3) (v := ?_) rfl (by kernel_rfl) (by kernel_rfl) (by kernel_rfl) (fun _ _ _ h => h) (Or.inl ⟨by rfl, ?_⟩) (by assumption) ?_
  rotate_left
  · intro w' hS; go_simp; try (with_reducible rfl)
  try simp only [Act.put, List.getElem_toArray, List.getElem_cons_zero, List.getElem_cons_succ, List.setIfInBounds_toArray, List.set_cons_zero, List.set_cons_succ]
  refine wpAnyH_take (i := 4) (v := ?_) rfl (by kernel_rfl) (by kernel_rfl) (by kernel_rfl) (fun _ _ _ h => h) (Or.inl ⟨by rfl, ?_⟩) (by assumption) ?_
  rotate_left
  · intro w' hS; have q := hS.at 3 _ rfl; have ql := hS.lt; go_simp; try (with_reducible rfl)
  try simp only [Act.put, List.getElem_toArray, List.getElem_cons_zero, List.getElem_cons_succ, List.setIfInBounds_toArray, List.set_cons_zero, List.set_cons_succ]
  refine wpAnyH_take (i := 5) (v := ?_) rfl (by kernel_rfl) (by kernel_rfl) (by kernel_rfl) (fun _ _ _ h => h) (Or.inl ⟨by rfl, ?_⟩) (by assumption) ?_
  rotate_left
  · intro w' hS; go_simp; try (with_reducible rfl)
  try simp only [Act.put, List.getElem_toArray, List.getElem_cons_zero, List.getElem_cons_succ, List.setIfInBounds_toArray, List.set_cons_zero, List.set_cons_succ]
  refine wpAnyH_take (i := 6) (v := ?_) rfl (by kernel_rfl) (by kernel_rfl) (by kernel_rfl) (fun _ _ _ h => h) (Or.inl ⟨by rfl, ?_⟩) (by assumption) ?_
  rotate_left
  · intro w' hS; go_simp; try (with_reducible rfl)
  try simp only [Act.put, List.getElem_toArray, List.getElem_cons_zero, List.getElem_cons_succ, List.setIfInBounds_toArray, List.set_cons_zero, List.set_cons_succ]
  refine wpAnyH_take (i := 7) (v := ?_) rfl (by kernel_rfl) (by kernel_rfl) (by kernel_rfl) (fun _ _ _ h => h) (Or.inl ⟨by rfl, ?_⟩) (by assumption) ?_
  rotate_left
  · intro w' hS; go_simp; try (with_reducible rfl)
  try simp only [Act.put, List.getElem_toArray, List.getElem_cons_zero, List.getElem_cons_succ, List.setIfInBounds_toArray, List.set_cons_zero, List.set_cons_succ]
  refine wpAnyH_take (i := 8) (v := ?_) rfl (by kernel_rfl) (by kernel_rfl) (by kernel_rfl) (fun _ _ _ h => h) (Or.inl ⟨by rfl, ?_⟩) (by assumption) ?_
  rotate_left
  · intro w' hS; go_simp; try (with_reducible rfl)
  try simp only [Act.put, List.getElem_toArray, List.getElem_cons_zero, List.getElem_cons_succ, List.setIfInBounds_toArray, List.set_cons_zero, List.set_cons_succ]
  refine wpAnyH_take (i := 9) (v := ?_) rfl (by kernel_rfl) (by kernel_rfl) (by kernel_rfl) (fun _ _ _ h => h) (Or.inl ⟨by rfl, ?_⟩) (by assumption) ?_
  rotate_left
  · intro w' hS; go_simp; try (with_reducible rfl)
  try simp only [Act.put, List.getElem_toArray, List.getElem_cons_zero, List.getElem_cons_succ, List.setIfInBounds_toArray, List.set_cons_zero, List.set_cons_succ]
  refine wpAnyH_take (i := 10) (v := ?_) rfl (by kernel_rfl) (by kernel_rfl) (by kernel_rfl) (fun _ _ _ h => h) (Or.inl ⟨by rfl, ?_⟩) (by assumption) ?_
  rotate_left
  · intro w' hS; have q := hS.at 3 _ rfl; have ql := hS.lt; go_simp; try (with_reducible rfl)
  try simp only [Act.put, List.getElem_toArray, List.getElem_cons_zero, List.getElem_cons_succ, List.setIfInBounds_toArray, List.set_cons_zero, List.set_cons_succ]
  refine wpAnyH_take (i := 11) (v := ?_) rfl (by kernel_rfl) (by kernel_rfl) (by kernel_rfl) (fun _ _ _ h => h) (Or.inl ⟨by rfl, ?_⟩) (by assumption) ?_
  rotate_left
  · intro w' hS; go_simp; try (with_reducible rfl)
  try simp only [Act.put, List.getElem_toArray, List.getElem_cons_zero, List.getElem_cons_succ, List.setIfInBounds_toArray, List.set_cons_zero, List.set_cons_succ]
  refine wpAnyH_take (i := 12) (v := ?_) rfl (by kernel_rfl) (by kernel_rfl) (by kernel_rfl) (fun _ _ _ h => h) (Or.inl ⟨by rfl, ?_⟩) (by assumption) ?_
  rotate_left
  · intro w' hS; go_simp; try (with_reducible rfl)
  try simp only [Act.put, List.getElem_toArray, List.getElem_cons_zero, List.getElem_cons_succ, List.setIfInBounds_toArray, List.set_cons_zero, List.set_cons_succ]
  refine wpAnyH_ready (rs := [13]) (by kernel_rfl) (by simp) ?_
  refine AllReadyH.cons rfl (fun K hK => ?_) AllReadyH.nil
  go_simp
  refine hK.out _ _ hb0_.alloc (fun _ => ?_)
  clear hK K
  try simp only [Act.put, List.getElem_toArray, List.getElem_cons_zero, List.getElem_cons_succ, List.setIfInBounds_toArray, List.set_cons_zero, List.set_cons_succ]
  have ROWd := row_later ROW3.out (Below.al (o := .cells #[.int .u8 (A.g 4 % 256), .int .u8 (A.g 4 / 256)] 5) (Below.refl _ _).drew)
  have hsz : X ≤ (y3.drew.alloc (.cells #[.int .u8 (A.g 4 % 256), .int .u8 (A.g 4 / 256)] 5)).heap.size := Nat.le_trans BS3.out (Below.al (Below.refl _ _).drew).size
  refine wpAnyH_ready (rs := [14]) (by kernel_rfl) (by simp) ?_
  refine AllReadyH.cons rfl (fun K hK => ?_) AllReadyH.nil
  refine step_append_to rfl (.tmp 59) (.tmp 72) 48 rfl 5 i0 (.int .u8 0) 1 1 Tryd.underlying48 hi hz0 hz1 hz2 rfl (by decide) X (.slice (some ⟨X3, 0, none⟩) 7 c3) 7 (nums .u8 EE 7) rfl ROWd ⟨y3.drew.heap.size, 0, none⟩ 2 2 [.int .u8 (A.g 4 % 256), .int .u8 (A.g 4 / 256)] rfl rfl (Own.newAt (by rfl)).news (by simp [Value.oneCell']) (by decide) (by decide) hsz ?_
  intro v' w6 hrow hgr
  obtain ⟨X4, c4, rfl, _, _⟩ := row_blk hrow (by decide)
  rw [XS3.out] at hrow
  have hYa := (Own.alloc (o := .cells #[.int .u8 (A.g 4 % 256), .int .u8 (A.g 4 / 256)] 5) HY3.out.drew)
  have hYb := hYa.grown hgr (row_apart ROWd (by decide) hYa)
  have HB4 := Lib.hid (Below.gro (Below.al (o := .cells #[.int .u8 (A.g 4 % 256), .int .u8 (A.g 4 / 256)] 5) HB3.out.drew) hgr ROWd BW.out)
  have BS4 := Lib.hid (Nat.le_trans hsz hgr.size)
  have ROW4 := Lib.hid hrow; have HY4 := Lib.hid hYb
  refine hK.out _ _ hYb (fun _ => ?_)
  clear hK K hrow hgr hYa ROWd hsz hb0_ ROW3 HB3 BS3 HY3 XS3 F3_ ta tb wa wb ca cb
  try simp only [Act.put, List.getElem_toArray, List.getElem_cons_zero, List.getElem_cons_succ, List.setIfInBounds_toArray, List.set_cons_zero, List.set_cons_succ]
  refine wpAnyH_take (i := 15) (v := ?_) rfl (by kernel_rfl) (by kernel_rfl) (by kernel_rfl) (fun _ _ _ h => h) (Or.inl ⟨by rfl, ?_⟩) (by assumption) ?_
  rotate_left
  · intro w' hS; go_simp; try (with_reducible rfl)
  try simp only [Act.put, List.getElem_toArray, List.getElem_cons_zero, List.getElem_cons_succ, List.setIfInBounds_toArray, List.set_cons_zero, List.set_cons_succ]
  refine wpAnyH_done (by kernel_rfl) ?_ _
  clear hYb
  obtain ⟨y4, ey⟩ : ∃ x, x = w6 := ⟨_, rfl⟩
  subst ey
  go_wp2_with (fail)
  rw [rounds_succ]
  go_wp2_with (fail)
  go_ret
  exact ⟨⟨_, rfl, RowR.of ROW4.out⟩, HB4.out⟩
end Go.Proofs.YtokfhhngnpbdkaaDoor
