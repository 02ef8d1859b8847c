/- AssetChecks, AssetEncodes: the walks. -/
import Derived.Test.YtokfhhngnpbdkaaDoorIX
import Derived.Test.YtokfhhngnpbdkaaDoorIQ
import Derived.Test.YtokfhhngnpbdkaaDoorIP
import Derived.Lib.Hide
import Derived.LoopN
import Derived.LoopTactic
import Derived.Deep.Onto
import Derived.Deep.RegionHeld3
import Derived.Deep.QuietTactic
import Derived.BigQuiet
import Derived.Great.BuildSlice
import Derived.StillTailTactics
import Derived.Lib.SliceRun
import Derived.OrdersHeld
namespace Go.Proofs.YtokfhhngnpbdkaaDoor
set_option linter.unusedVariables false
set_option maxRecDepth 2000
set_option linter.unusedSimpArgs false
open Go.RowKit
set_option maxHeartbeats 16000000 in
theorem Checks_law (A : Ast) (w : World) (hA : AstAt A w) (hg : Has 0 0 CapL w) : Calls Tryd.prog 3 #[(.agg #[.int .i64 A.k, .slice A.M.qv A.M.nv A.M.cv, .slice A.M.qu A.M.nu A.M.cu, .slice A.M.qt A.M.nt A.M.ct, .int .i64 A.X.S, .slice A.X.q A.X.n A.X.c, .int .i64 (A.g 0), .int .i64 (A.g 1), .int .i64 (A.g 2), .int .i64 (A.g 3), .int .i64 (A.g 4), .int .i64 (A.l 0), .int .i64 (A.l 1), .int .i64 (A.l 2), .int .i64 (A.l 3), .int .i64 (A.l 4), .int .i64 (A.l 5), .int .i64 (A.l 6), .int .i64 (A.l 7), .int .i64 (A.l 8), .int .i64 (A.l 9), .int .i64 (A.l 10), .int .i64 (A.l 11), .int .i64 (A.l 12)])] w fun e w' => e = .returned (.bool true) ∧ Below w.heap.size w w' := by
  have AA := Lib.hid hA; have GG := Lib.hid hg
  clear hA hg
  have M1 := Lib.hid (Material_any (fewA A).g); have M2 := Lib.hid (RMaterial_any (fewA A).g)
  have L1 := Lib.hid (Light_any (fewA A).l); have L2 := Lib.hid (RLight_any (fewA A).l)
  have C1 := Lib.hid (fun w (h : AstAt A w) hg => ACheck_any (fewA A) (fewA_few A) w (fewA_at h) hg)
  have C2 := Lib.hid (fun w (h : AstAt A w) => RACheck_any (fewA A) (fewA_few A) w (fewA_at h))
  generalize chkG (fewA A).g = zg at *
  generalize chkLg (fewA A).l = zl at *
  generalize chkA (fewA A) = za at *
  go_enter Tryd.func3, Tryd.ntmps3
  go_upto_region 1 with fail
  obtain ⟨W0, hW⟩ : ∃ W0, W0 = (w.alloc (.cells #[.int .i64 A.k, .slice A.M.qv A.M.nv A.M.cv, .slice A.M.qu A.M.nu A.M.cu, .slice A.M.qt A.M.nt A.M.ct, .int .i64 A.X.S, .slice A.X.q A.X.n A.X.c, .int .i64 (A.g 0), .int .i64 (A.g 1), .int .i64 (A.g 2), .int .i64 (A.g 3), .int .i64 (A.g 4), .int .i64 (A.l 0), .int .i64 (A.l 1), .int .i64 (A.l 2), .int .i64 (A.l 3), .int .i64 (A.l 4), .int .i64 (A.l 5), .int .i64 (A.l 6), .int .i64 (A.l 7), .int .i64 (A.l 8), .int .i64 (A.l 9), .int .i64 (A.l 10), .int .i64 (A.l 11), .int .i64 (A.l 12)] 37)) := ⟨_, rfl⟩
  have hB0 : Below w.heap.size w W0 := hW ▸ (Below.al (Below.refl _ _))
  have HP : Hid (Own w.heap.size ([.int .i64 A.k, .slice A.M.qv A.M.nv A.M.cv, .slice A.M.qu A.M.nu A.M.cu, .slice A.M.qt A.M.nt A.M.ct, .int .i64 A.X.S, .slice A.X.q A.X.n A.X.c, .int .i64 (A.g 0), .int .i64 (A.g 1), .int .i64 (A.g 2), .int .i64 (A.g 3), .int .i64 (A.g 4), .int .i64 (A.l 0), .int .i64 (A.l 1), .int .i64 (A.l 2), .int .i64 (A.l 3), .int .i64 (A.l 4), .int .i64 (A.l 5), .int .i64 (A.l 6), .int .i64 (A.l 7), .int .i64 (A.l 8), .int .i64 (A.l 9), .int .i64 (A.l 10), .int .i64 (A.l 11), .int .i64 (A.l 12)]) W0) := Lib.hid (hW ▸ (show Own w.heap.size ([.int .i64 A.k, .slice A.M.qv A.M.nv A.M.cv, .slice A.M.qu A.M.nu A.M.cu, .slice A.M.qt A.M.nt A.M.ct, .int .i64 A.X.S, .slice A.X.q A.X.n A.X.c, .int .i64 (A.g 0), .int .i64 (A.g 1), .int .i64 (A.g 2), .int .i64 (A.g 3), .int .i64 (A.g 4), .int .i64 (A.l 0), .int .i64 (A.l 1), .int .i64 (A.l 2), .int .i64 (A.l 3), .int .i64 (A.l 4), .int .i64 (A.l 5), .int .i64 (A.l 6), .int .i64 (A.l 7), .int .i64 (A.l 8), .int .i64 (A.l 9), .int .i64 (A.l 10), .int .i64 (A.l 11), .int .i64 (A.l 12)]) (w.alloc (.cells #[.int .i64 A.k, .slice A.M.qv A.M.nv A.M.cv, .slice A.M.qu A.M.nu A.M.cu, .slice A.M.qt A.M.nt A.M.ct, .int .i64 A.X.S, .slice A.X.q A.X.n A.X.c, .int .i64 (A.g 0), .int .i64 (A.g 1), .int .i64 (A.g 2), .int .i64 (A.g 3), .int .i64 (A.g 4), .int .i64 (A.l 0), .int .i64 (A.l 1), .int .i64 (A.l 2), .int .i64 (A.l 3), .int .i64 (A.l 4), .int .i64 (A.l 5), .int .i64 (A.l 6), .int .i64 (A.l 7), .int .i64 (A.l 8), .int .i64 (A.l 9), .int .i64 (A.l 10), .int .i64 (A.l 11), .int .i64 (A.l 12)] 37)) from Own.newAt (by simp)))
  rw [← hW]
  clear hW
  obtain ⟨P, eP⟩ : ∃ X, X = w.heap.size := ⟨_, rfl⟩
  rw [← eP] at HP ⊢
  have Pw : w.heap.size ≤ P := by omega
  clear eP
  have FW := Lib.hid (lfew_any A)
  go_upto_region 2 with (first | (refine wpList_load_mid rfl 37 _ rfl P 0 rfl ([.int .i64 A.k, .slice A.M.qv A.M.nv A.M.cv, .slice A.M.qu A.M.nu A.M.cu, .slice A.M.qt A.M.nt A.M.ct, .int .i64 A.X.S, .slice A.X.q A.X.n A.X.c, .int .i64 (A.g 0), .int .i64 (A.g 1), .int .i64 (A.g 2), .int .i64 (A.g 3), .int .i64 (A.g 4), .int .i64 (A.l 0), .int .i64 (A.l 1), .int .i64 (A.l 2), .int .i64 (A.l 3), .int .i64 (A.l 4), .int .i64 (A.l 5), .int .i64 (A.l 6), .int .i64 (A.l 7), .int .i64 (A.l 8), .int .i64 (A.l 9), .int .i64 (A.l 10), .int .i64 (A.l 11), .int .i64 (A.l 12)]) _ HP.out.cell Tryd.underlying37 rfl (by kernel_rfl) ?_) | (go_at_call 8; refine (FW.out _ (AA.out.later hB0)).mono ?_; rintro e w1 ⟨rfl, hb⟩; have HP1 := Lib.hid (HP.out.later hb); have hB1 := Below.go hB0 hb; clear hb hB0 HP FW) | (refine wpList_store_mid rfl 37 _ _ rfl P 0 ([.int .i64 (fewA A).k, .slice (fewA A).M.qv (fewA A).M.nv (fewA A).M.cv, .slice (fewA A).M.qu (fewA A).M.nu (fewA A).M.cu, .slice (fewA A).M.qt (fewA A).M.nt (fewA A).M.ct, .int .i64 (fewA A).X.S, .slice (fewA A).X.q (fewA A).X.n (fewA A).X.c, .int .i64 ((fewA A).g 0), .int .i64 ((fewA A).g 1), .int .i64 ((fewA A).g 2), .int .i64 ((fewA A).g 3), .int .i64 ((fewA A).g 4), .int .i64 ((fewA A).l 0), .int .i64 ((fewA A).l 1), .int .i64 ((fewA A).l 2), .int .i64 ((fewA A).l 3), .int .i64 ((fewA A).l 4), .int .i64 ((fewA A).l 5), .int .i64 ((fewA A).l 6), .int .i64 ((fewA A).l 7), .int .i64 ((fewA A).l 8), .int .i64 ((fewA A).l 9), .int .i64 ((fewA A).l 10), .int .i64 ((fewA A).l 11), .int .i64 ((fewA A).l 12)]).toArray rfl rfl HP1.out.free (by kernel_rfl) (by simp [Value.oneCell']) ?_; change wpList _ _ _ _ _ (w1.setCells P 0 ([.int .i64 (fewA A).k, .slice (fewA A).M.qv (fewA A).M.nv (fewA A).M.cv, .slice (fewA A).M.qu (fewA A).M.nu (fewA A).M.cu, .slice (fewA A).M.qt (fewA A).M.nt (fewA A).M.ct, .int .i64 (fewA A).X.S, .slice (fewA A).X.q (fewA A).X.n (fewA A).X.c, .int .i64 ((fewA A).g 0), .int .i64 ((fewA A).g 1), .int .i64 ((fewA A).g 2), .int .i64 ((fewA A).g 3), .int .i64 ((fewA A).g 4), .int .i64 ((fewA A).l 0), .int .i64 ((fewA A).l 1), .int .i64 ((fewA A).l 2), .int .i64 ((fewA A).l 3), .int .i64 ((fewA A).l 4), .int .i64 ((fewA A).l 5), .int .i64 ((fewA A).l 6), .int .i64 ((fewA A).l 7), .int .i64 ((fewA A).l 8), .int .i64 ((fewA A).l 9), .int .i64 ((fewA A).l 10), .int .i64 ((fewA A).l 11), .int .i64 ((fewA A).l 12)])); have HPn : Hid (Own P ([.int .i64 (fewA A).k, .slice (fewA A).M.qv (fewA A).M.nv (fewA A).M.cv, .slice (fewA A).M.qu (fewA A).M.nu (fewA A).M.cu, .slice (fewA A).M.qt (fewA A).M.nt (fewA A).M.ct, .int .i64 (fewA A).X.S, .slice (fewA A).X.q (fewA A).X.n (fewA A).X.c, .int .i64 ((fewA A).g 0), .int .i64 ((fewA A).g 1), .int .i64 ((fewA A).g 2), .int .i64 ((fewA A).g 3), .int .i64 ((fewA A).g 4), .int .i64 ((fewA A).l 0), .int .i64 ((fewA A).l 1), .int .i64 ((fewA A).l 2), .int .i64 ((fewA A).l 3), .int .i64 ((fewA A).l 4), .int .i64 ((fewA A).l 5), .int .i64 ((fewA A).l 6), .int .i64 ((fewA A).l 7), .int .i64 ((fewA A).l 8), .int .i64 ((fewA A).l 9), .int .i64 ((fewA A).l 10), .int .i64 ((fewA A).l 11), .int .i64 ((fewA A).l 12)]) (w1.setCells P 0 ([.int .i64 (fewA A).k, .slice (fewA A).M.qv (fewA A).M.nv (fewA A).M.cv, .slice (fewA A).M.qu (fewA A).M.nu (fewA A).M.cu, .slice (fewA A).M.qt (fewA A).M.nt (fewA A).M.ct, .int .i64 (fewA A).X.S, .slice (fewA A).X.q (fewA A).X.n (fewA A).X.c, .int .i64 ((fewA A).g 0), .int .i64 ((fewA A).g 1), .int .i64 ((fewA A).g 2), .int .i64 ((fewA A).g 3), .int .i64 ((fewA A).g 4), .int .i64 ((fewA A).l 0), .int .i64 ((fewA A).l 1), .int .i64 ((fewA A).l 2), .int .i64 ((fewA A).l 3), .int .i64 ((fewA A).l 4), .int .i64 ((fewA A).l 5), .int .i64 ((fewA A).l 6), .int .i64 ((fewA A).l 7), .int .i64 ((fewA A).l 8), .int .i64 ((fewA A).l 9), .int .i64 ((fewA A).l 10), .int .i64 ((fewA A).l 11), .int .i64 ((fewA A).l 12)]))) := Lib.hid (Own.store HP1.out rfl); have hB2 : Below w.heap.size w (w1.setCells P 0 ([.int .i64 (fewA A).k, .slice (fewA A).M.qv (fewA A).M.nv (fewA A).M.cv, .slice (fewA A).M.qu (fewA A).M.nu (fewA A).M.cu, .slice (fewA A).M.qt (fewA A).M.nt (fewA A).M.ct, .int .i64 (fewA A).X.S, .slice (fewA A).X.q (fewA A).X.n (fewA A).X.c, .int .i64 ((fewA A).g 0), .int .i64 ((fewA A).g 1), .int .i64 ((fewA A).g 2), .int .i64 ((fewA A).g 3), .int .i64 ((fewA A).g 4), .int .i64 ((fewA A).l 0), .int .i64 ((fewA A).l 1), .int .i64 ((fewA A).l 2), .int .i64 ((fewA A).l 3), .int .i64 ((fewA A).l 4), .int .i64 ((fewA A).l 5), .int .i64 ((fewA A).l 6), .int .i64 ((fewA A).l 7), .int .i64 ((fewA A).l 8), .int .i64 ((fewA A).l 9), .int .i64 ((fewA A).l 10), .int .i64 ((fewA A).l 11), .int .i64 ((fewA A).l 12)])) := Below.setCells hB1 Pw _ _; clear HP1 hB1; generalize w1.setCells P 0 ([.int .i64 (fewA A).k, .slice (fewA A).M.qv (fewA A).M.nv (fewA A).M.cv, .slice (fewA A).M.qu (fewA A).M.nu (fewA A).M.cu, .slice (fewA A).M.qt (fewA A).M.nt (fewA A).M.ct, .int .i64 (fewA A).X.S, .slice (fewA A).X.q (fewA A).X.n (fewA A).X.c, .int .i64 ((fewA A).g 0), .int .i64 ((fewA A).g 1), .int .i64 ((fewA A).g 2), .int .i64 ((fewA A).g 3), .int .i64 ((fewA A).g 4), .int .i64 ((fewA A).l 0), .int .i64 ((fewA A).l 1), .int .i64 ((fewA A).l 2), .int .i64 ((fewA A).l 3), .int .i64 ((fewA A).l 4), .int .i64 ((fewA A).l 5), .int .i64 ((fewA A).l 6), .int .i64 ((fewA A).l 7), .int .i64 ((fewA A).l 8), .int .i64 ((fewA A).l 9), .int .i64 ((fewA A).l 10), .int .i64 ((fewA A).l 11), .int .i64 ((fewA A).l 12)]) = w2 at *))
  have HB := Lib.hid hB2
  have HP := HPn
  have A1 := Lib.hid (AA.out.later hB2); have G1 := Lib.hid (GG.out.later hB2)
  clear hB2 HPn AA GG
  refine wp_region_held_drew (S := fun w' => Below w2.heap.size w2 w') (by kernel_rfl) (Below.refl _ _).drew (fun hb0_ => ?_)
  refine wpAnyH_take (i := 0) (v := ?_) rfl (by kernel_rfl) (by kernel_rfl) (by kernel_rfl) (fun _ _ _ h => h) (Or.inl ⟨by rfl, ?_⟩) (by assumption) ?_
  rotate_left
  · intro w' hS; go_simp; try (with_reducible rfl)
  try simp only [Act.put, List.getElem_toArray, List.getElem_cons_zero, List.getElem_cons_succ, List.setIfInBounds_toArray, List.set_cons_zero, List.set_cons_succ]
  refine wpAnyH_take (i := 1) (v := .agg ([.int .i64 ((fewA A).g 0), .int .i64 ((fewA A).g 1), .int .i64 ((fewA A).g 2), .int .i64 ((fewA A).g 3), .int .i64 ((fewA A).g 4)]).toArray) rfl (by kernel_rfl) (by kernel_rfl) (by kernel_rfl) (fun _ _ _ h => h) (yieldsIf_load_mid (by rfl) 31 _ rfl P 6 rfl ([.int .i64 ((fewA A).g 0), .int .i64 ((fewA A).g 1), .int .i64 ((fewA A).g 2), .int .i64 ((fewA A).g 3), .int .i64 ((fewA A).g 4)]) _ (fun w h => by
    have := (has_sub (ds := [.int .i64 ((fewA A).g 0), .int .i64 ((fewA A).g 1), .int .i64 ((fewA A).g 2), .int .i64 ((fewA A).g 3), .int .i64 ((fewA A).g 4)]) 6 (HP.out.later h).has (fun j v h => by
      match j, h with
      | 0, h => exact h
      | 1, h => exact h
      | 2, h => exact h
      | 3, h => exact h
      | 4, h => exact h
      | j + 5, h => cases h)).cell
    rwa [Nat.zero_add] at this) Tryd.underlying31 rfl (by kernel_rfl)) (by assumption) ?_
  try simp only [Act.put, List.getElem_toArray, List.getElem_cons_zero, List.getElem_cons_succ, List.setIfInBounds_toArray, List.set_cons_zero, List.set_cons_succ]
  refine wpAnyH_take (i := 3) (v := ?_) rfl (by kernel_rfl) (by kernel_rfl) (by kernel_rfl) (fun _ _ _ h => h) (Or.inl ⟨by rfl, ?_⟩) (by assumption) ?_
  rotate_left
  · intro w' hS; go_simp; try (with_reducible rfl)
  try simp only [Act.put, List.getElem_toArray, List.getElem_cons_zero, List.getElem_cons_succ, List.setIfInBounds_toArray, List.set_cons_zero, List.set_cons_succ]
  refine wpAnyH_take (i := 4) (v := .agg ([.int .i64 ((fewA A).g 0), .int .i64 ((fewA A).g 1), .int .i64 ((fewA A).g 2), .int .i64 ((fewA A).g 3), .int .i64 ((fewA A).g 4)]).toArray) rfl (by kernel_rfl) (by kernel_rfl) (by kernel_rfl) (fun _ _ _ h => h) (yieldsIf_load_mid (by rfl) 31 _ rfl P 6 rfl ([.int .i64 ((fewA A).g 0), .int .i64 ((fewA A).g 1), .int .i64 ((fewA A).g 2), .int .i64 ((fewA A).g 3), .int .i64 ((fewA A).g 4)]) _ (fun w h => by
    have := (has_sub (ds := [.int .i64 ((fewA A).g 0), .int .i64 ((fewA A).g 1), .int .i64 ((fewA A).g 2), .int .i64 ((fewA A).g 3), .int .i64 ((fewA A).g 4)]) 6 (HP.out.later h).has (fun j v h => by
      match j, h with
      | 0, h => exact h
      | 1, h => exact h
      | 2, h => exact h
      | 3, h => exact h
      | 4, h => exact h
      | j + 5, h => cases h)).cell
    rwa [Nat.zero_add] at this) Tryd.underlying31 rfl (by kernel_rfl)) (by assumption) ?_
  try simp only [Act.put, List.getElem_toArray, List.getElem_cons_zero, List.getElem_cons_succ, List.setIfInBounds_toArray, List.set_cons_zero, List.set_cons_succ]
  refine wpAnyH_ready (rs := [2]) (by kernel_rfl) (by simp) ?_
  refine AllReadyH.cons rfl (fun K hK => ?_) AllReadyH.nil
  go_simp
  go_at_call 9
  refine (M1.out _).mono ?_
  rintro e u1 ⟨rfl, h1⟩
  have bu1 := Below.go hb0_ h1
  clear h1
  refine hK.out _ _ bu1 (fun _ => ?_)
  clear hK K
  try simp only [Act.put, List.getElem_toArray, List.getElem_cons_zero, List.getElem_cons_succ, List.setIfInBounds_toArray, List.set_cons_zero, List.set_cons_succ]
  refine wpAnyH_ready (rs := [5]) (by kernel_rfl) (by simp) ?_
  refine AllReadyH.cons rfl (fun K hK => ?_) AllReadyH.nil
  go_simp
  go_at_call 10
  refine (M2.out _).mono ?_
  rintro e u2 ⟨rfl, h1⟩
  have bu2 := Below.go bu1 h1
  clear h1
  refine hK.out _ _ bu2 (fun _ => ?_)
  clear hK K
  try simp only [Act.put, List.getElem_toArray, List.getElem_cons_zero, List.getElem_cons_succ, List.setIfInBounds_toArray, List.set_cons_zero, List.set_cons_succ]
  refine wpAnyH_take (i := 6) (v := .bool true) rfl (by kernel_rfl) (by kernel_rfl) (by kernel_rfl) (fun _ _ _ h => h) (Or.inl ⟨by rfl, fun w' hS => ?_⟩) (by assumption) ?_
  · go_simp
  try simp only [Act.put, List.getElem_toArray, List.getElem_cons_zero, List.getElem_cons_succ, List.setIfInBounds_toArray, List.set_cons_zero, List.set_cons_succ]
  refine wpAnyH_take (i := 7) (v := ?_) rfl (by kernel_rfl) (by kernel_rfl) (by kernel_rfl) (fun _ _ _ h => h) (Or.inl ⟨by rfl, ?_⟩) (by assumption) ?_
  rotate_left
  · intro w' hS; go_simp; try (with_reducible rfl)
  try simp only [Act.put, List.getElem_toArray, List.getElem_cons_zero, List.getElem_cons_succ, List.setIfInBounds_toArray, List.set_cons_zero, List.set_cons_succ]
  refine wpAnyH_take (i := 8) (v := ?_) rfl (by kernel_rfl) (by kernel_rfl) (by kernel_rfl) (fun _ _ _ h => h) (Or.inl ⟨by rfl, ?_⟩) (by assumption) ?_
  rotate_left
  · intro w' hS; go_simp; try (with_reducible rfl)
  try simp only [Act.put, List.getElem_toArray, List.getElem_cons_zero, List.getElem_cons_succ, List.setIfInBounds_toArray, List.set_cons_zero, List.set_cons_succ]
  refine wpAnyH_take (i := 9) (v := .agg ([.int .i64 ((fewA A).l 0), .int .i64 ((fewA A).l 1), .int .i64 ((fewA A).l 2), .int .i64 ((fewA A).l 3), .int .i64 ((fewA A).l 4), .int .i64 ((fewA A).l 5), .int .i64 ((fewA A).l 6), .int .i64 ((fewA A).l 7), .int .i64 ((fewA A).l 8), .int .i64 ((fewA A).l 9), .int .i64 ((fewA A).l 10), .int .i64 ((fewA A).l 11), .int .i64 ((fewA A).l 12)]).toArray) rfl (by kernel_rfl) (by kernel_rfl) (by kernel_rfl) (fun _ _ _ h => h) (yieldsIf_load_mid (by rfl) 35 _ rfl P 11 rfl ([.int .i64 ((fewA A).l 0), .int .i64 ((fewA A).l 1), .int .i64 ((fewA A).l 2), .int .i64 ((fewA A).l 3), .int .i64 ((fewA A).l 4), .int .i64 ((fewA A).l 5), .int .i64 ((fewA A).l 6), .int .i64 ((fewA A).l 7), .int .i64 ((fewA A).l 8), .int .i64 ((fewA A).l 9), .int .i64 ((fewA A).l 10), .int .i64 ((fewA A).l 11), .int .i64 ((fewA A).l 12)]) _ (fun w h => by
    have := (has_sub (ds := [.int .i64 ((fewA A).l 0), .int .i64 ((fewA A).l 1), .int .i64 ((fewA A).l 2), .int .i64 ((fewA A).l 3), .int .i64 ((fewA A).l 4), .int .i64 ((fewA A).l 5), .int .i64 ((fewA A).l 6), .int .i64 ((fewA A).l 7), .int .i64 ((fewA A).l 8), .int .i64 ((fewA A).l 9), .int .i64 ((fewA A).l 10), .int .i64 ((fewA A).l 11), .int .i64 ((fewA A).l 12)]) 11 (HP.out.later h).has (fun j v h => by
      match j, h with
      | 0, h => exact h
      | 1, h => exact h
      | 2, h => exact h
      | 3, h => exact h
      | 4, h => exact h
      | 5, h => exact h
      | 6, h => exact h
      | 7, h => exact h
      | 8, h => exact h
      | 9, h => exact h
      | 10, h => exact h
      | 11, h => exact h
      | 12, h => exact h
      | j + 13, h => cases h)).cell
    rwa [Nat.zero_add] at this) Tryd.underlying35 rfl (by kernel_rfl)) (by assumption) ?_
  try simp only [Act.put, List.getElem_toArray, List.getElem_cons_zero, List.getElem_cons_succ, List.setIfInBounds_toArray, List.set_cons_zero, List.set_cons_succ]
  refine wpAnyH_take (i := 11) (v := ?_) rfl (by kernel_rfl) (by kernel_rfl) (by kernel_rfl) (fun _ _ _ h => h) (Or.inl ⟨by rfl, ?_⟩) (by assumption) ?_
  rotate_left
  · intro w' hS; go_simp; try (with_reducible rfl)
  try simp only [Act.put, List.getElem_toArray, List.getElem_cons_zero, List.getElem_cons_succ, List.setIfInBounds_toArray, List.set_cons_zero, List.set_cons_succ]
  refine wpAnyH_take (i := 12) (v := .agg ([.int .i64 ((fewA A).l 0), .int .i64 ((fewA A).l 1), .int .i64 ((fewA A).l 2), .int .i64 ((fewA A).l 3), .int .i64 ((fewA A).l 4), .int .i64 ((fewA A).l 5), .int .i64 ((fewA A).l 6), .int .i64 ((fewA A).l 7), .int .i64 ((fewA A).l 8), .int .i64 ((fewA A).l 9), .int .i64 ((fewA A).l 10), .int .i64 ((fewA A).l 11), .int .i64 ((fewA A).l 12)]).toArray) rfl (by kernel_rfl) (by kernel_rfl) (by kernel_rfl) (fun _ _ _ h => h) (yieldsIf_load_mid (by rfl) 35 _ rfl P 11 rfl ([.int .i64 ((fewA A).l 0), .int .i64 ((fewA A).l 1), .int .i64 ((fewA A).l 2), .int .i64 ((fewA A).l 3), .int .i64 ((fewA A).l 4), .int .i64 ((fewA A).l 5), .int .i64 ((fewA A).l 6), .int .i64 ((fewA A).l 7), .int .i64 ((fewA A).l 8), .int .i64 ((fewA A).l 9), .int .i64 ((fewA A).l 10), .int .i64 ((fewA A).l 11), .int .i64 ((fewA A).l 12)]) _ (fun w h => by
    have := (has_sub (ds := [.int .i64 ((fewA A).l 0), .int .i64 ((fewA A).l 1), .int .i64 ((fewA A).l 2), .int .i64 ((fewA A).l 3), .int .i64 ((fewA A).l 4), .int .i64 ((fewA A).l 5), .int .i64 ((fewA A).l 6), .int .i64 ((fewA A).l 7), .int .i64 ((fewA A).l 8), .int .i64 ((fewA A).l 9), .int .i64 ((fewA A).l 10), .int .i64 ((fewA A).l 11), .int .i64 ((fewA A).l 12)]) 11 (HP.out.later h).has (fun j v h => by
      match j, h with
      | 0, h => exact h
      | 1, h => exact h
      | 2, h => exact h
      | 3, h => exact h
      | 4, h => exact h
      | 5, h => exact h
      | 6, h => exact h
      | 7, h => exact h
      | 8, h => exact h
      | 9, h => exact h
      | 10, h => exact h
      | 11, h => exact h
      | 12, h => exact h
      | j + 13, h => cases h)).cell
    rwa [Nat.zero_add] at this) Tryd.underlying35 rfl (by kernel_rfl)) (by assumption) ?_
  try simp only [Act.put, List.getElem_toArray, List.getElem_cons_zero, List.getElem_cons_succ, List.setIfInBounds_toArray, List.set_cons_zero, List.set_cons_succ]
  refine wpAnyH_ready (rs := [10]) (by kernel_rfl) (by simp) ?_
  refine AllReadyH.cons rfl (fun K hK => ?_) AllReadyH.nil
  go_simp
  go_at_call 11
  refine (L1.out _).mono ?_
  rintro e u3 ⟨rfl, h1⟩
  have bu3 := Below.go bu2 h1
  clear h1
  refine hK.out _ _ bu3 (fun _ => ?_)
  clear hK K
  try simp only [Act.put, List.getElem_toArray, List.getElem_cons_zero, List.getElem_cons_succ, List.setIfInBounds_toArray, List.set_cons_zero, List.set_cons_succ]
  refine wpAnyH_ready (rs := [13]) (by kernel_rfl) (by simp) ?_
  refine AllReadyH.cons rfl (fun K hK => ?_) AllReadyH.nil
  go_simp
  go_at_call 12
  refine (L2.out _).mono ?_
  rintro e u4 ⟨rfl, h1⟩
  have bu4 := Below.go bu3 h1
  clear h1
  refine hK.out _ _ bu4 (fun _ => ?_)
  clear hK K
  try simp only [Act.put, List.getElem_toArray, List.getElem_cons_zero, List.getElem_cons_succ, List.setIfInBounds_toArray, List.set_cons_zero, List.set_cons_succ]
  refine wpAnyH_take (i := 14) (v := .bool true) rfl (by kernel_rfl) (by kernel_rfl) (by kernel_rfl) (fun _ _ _ h => h) (Or.inl ⟨by rfl, fun w' hS => ?_⟩) (by assumption) ?_
  · go_simp
  try simp only [Act.put, List.getElem_toArray, List.getElem_cons_zero, List.getElem_cons_succ, List.setIfInBounds_toArray, List.set_cons_zero, List.set_cons_succ]
  refine wpAnyH_take (i := 15) (v := ?_) rfl (by kernel_rfl) (by kernel_rfl) (by kernel_rfl) (fun _ _ _ h => h) (Or.inl ⟨by rfl, ?_⟩) (by assumption) ?_
  rotate_left
  · intro w' hS; go_simp; try (with_reducible rfl)
  try simp only [Act.put, List.getElem_toArray, List.getElem_cons_zero, List.getElem_cons_succ, List.setIfInBounds_toArray, List.set_cons_zero, List.set_cons_succ]
  refine wpAnyH_take (i := 16) (v := ?_) rfl (by kernel_rfl) (by kernel_rfl) (by kernel_rfl) (fun _ _ _ h => h) (Or.inl ⟨by rfl, ?_⟩) (by assumption) ?_
  rotate_left
  · intro w' hS; go_simp; try (with_reducible rfl)
  try simp only [Act.put, List.getElem_toArray, List.getElem_cons_zero, List.getElem_cons_succ, List.setIfInBounds_toArray, List.set_cons_zero, List.set_cons_succ]
  refine wpAnyH_take (i := 17) (v := .agg ([.int .i64 (fewA A).k, .slice (fewA A).M.qv (fewA A).M.nv (fewA A).M.cv, .slice (fewA A).M.qu (fewA A).M.nu (fewA A).M.cu, .slice (fewA A).M.qt (fewA A).M.nt (fewA A).M.ct, .int .i64 (fewA A).X.S, .slice (fewA A).X.q (fewA A).X.n (fewA A).X.c, .int .i64 ((fewA A).g 0), .int .i64 ((fewA A).g 1), .int .i64 ((fewA A).g 2), .int .i64 ((fewA A).g 3), .int .i64 ((fewA A).g 4), .int .i64 ((fewA A).l 0), .int .i64 ((fewA A).l 1), .int .i64 ((fewA A).l 2), .int .i64 ((fewA A).l 3), .int .i64 ((fewA A).l 4), .int .i64 ((fewA A).l 5), .int .i64 ((fewA A).l 6), .int .i64 ((fewA A).l 7), .int .i64 ((fewA A).l 8), .int .i64 ((fewA A).l 9), .int .i64 ((fewA A).l 10), .int .i64 ((fewA A).l 11), .int .i64 ((fewA A).l 12)]).toArray) rfl (by kernel_rfl) (by kernel_rfl) (by kernel_rfl) (fun _ _ _ h => h) (yieldsIf_load_mid (by rfl) 37 _ rfl P 0 rfl ([.int .i64 (fewA A).k, .slice (fewA A).M.qv (fewA A).M.nv (fewA A).M.cv, .slice (fewA A).M.qu (fewA A).M.nu (fewA A).M.cu, .slice (fewA A).M.qt (fewA A).M.nt (fewA A).M.ct, .int .i64 (fewA A).X.S, .slice (fewA A).X.q (fewA A).X.n (fewA A).X.c, .int .i64 ((fewA A).g 0), .int .i64 ((fewA A).g 1), .int .i64 ((fewA A).g 2), .int .i64 ((fewA A).g 3), .int .i64 ((fewA A).g 4), .int .i64 ((fewA A).l 0), .int .i64 ((fewA A).l 1), .int .i64 ((fewA A).l 2), .int .i64 ((fewA A).l 3), .int .i64 ((fewA A).l 4), .int .i64 ((fewA A).l 5), .int .i64 ((fewA A).l 6), .int .i64 ((fewA A).l 7), .int .i64 ((fewA A).l 8), .int .i64 ((fewA A).l 9), .int .i64 ((fewA A).l 10), .int .i64 ((fewA A).l 11), .int .i64 ((fewA A).l 12)]) _ (fun w h => (HP.out.later h).cell) Tryd.underlying37 rfl (by kernel_rfl)) (by assumption) ?_
  try simp only [Act.put, List.getElem_toArray, List.getElem_cons_zero, List.getElem_cons_succ, List.setIfInBounds_toArray, List.set_cons_zero, List.set_cons_succ]
  refine wpAnyH_take (i := 19) (v := .agg ([.int .i64 (fewA A).k, .slice (fewA A).M.qv (fewA A).M.nv (fewA A).M.cv, .slice (fewA A).M.qu (fewA A).M.nu (fewA A).M.cu, .slice (fewA A).M.qt (fewA A).M.nt (fewA A).M.ct, .int .i64 (fewA A).X.S, .slice (fewA A).X.q (fewA A).X.n (fewA A).X.c, .int .i64 ((fewA A).g 0), .int .i64 ((fewA A).g 1), .int .i64 ((fewA A).g 2), .int .i64 ((fewA A).g 3), .int .i64 ((fewA A).g 4), .int .i64 ((fewA A).l 0), .int .i64 ((fewA A).l 1), .int .i64 ((fewA A).l 2), .int .i64 ((fewA A).l 3), .int .i64 ((fewA A).l 4), .int .i64 ((fewA A).l 5), .int .i64 ((fewA A).l 6), .int .i64 ((fewA A).l 7), .int .i64 ((fewA A).l 8), .int .i64 ((fewA A).l 9), .int .i64 ((fewA A).l 10), .int .i64 ((fewA A).l 11), .int .i64 ((fewA A).l 12)]).toArray) rfl (by kernel_rfl) (by kernel_rfl) (by kernel_rfl) (fun _ _ _ h => h) (yieldsIf_load_mid (by rfl) 37 _ rfl P 0 rfl ([.int .i64 (fewA A).k, .slice (fewA A).M.qv (fewA A).M.nv (fewA A).M.cv, .slice (fewA A).M.qu (fewA A).M.nu (fewA A).M.cu, .slice (fewA A).M.qt (fewA A).M.nt (fewA A).M.ct, .int .i64 (fewA A).X.S, .slice (fewA A).X.q (fewA A).X.n (fewA A).X.c, .int .i64 ((fewA A).g 0), .int .i64 ((fewA A).g 1), .int .i64 ((fewA A).g 2), .int .i64 ((fewA A).g 3), .int .i64 ((fewA A).g 4), .int .i64 ((fewA A).l 0), .int .i64 ((fewA A).l 1), .int .i64 ((fewA A).l 2), .int .i64 ((fewA A).l 3), .int .i64 ((fewA A).l 4), .int .i64 ((fewA A).l 5), .int .i64 ((fewA A).l 6), .int .i64 ((fewA A).l 7), .int .i64 ((fewA A).l 8), .int .i64 ((fewA A).l 9), .int .i64 ((fewA A).l 10), .int .i64 ((fewA A).l 11), .int .i64 ((fewA A).l 12)]) _ (fun w h => (HP.out.later h).cell) Tryd.underlying37 rfl (by kernel_rfl)) (by assumption) ?_
  try simp only [Act.put, List.getElem_toArray, List.getElem_cons_zero, List.getElem_cons_succ, List.setIfInBounds_toArray, List.set_cons_zero, List.set_cons_succ]
  refine wpAnyH_ready (rs := [18]) (by kernel_rfl) (by simp) ?_
  refine AllReadyH.cons rfl (fun K hK => ?_) AllReadyH.nil
  go_simp
  go_at_call 13
  refine (C1.out _ (A1.out.later bu4) (G1.out.later bu4)).mono ?_
  rintro e u5 ⟨rfl, h1⟩
  have bu5 := Below.go bu4 h1
  clear h1
  refine hK.out _ _ bu5 (fun _ => ?_)
  clear hK K
  try simp only [Act.put, List.getElem_toArray, List.getElem_cons_zero, List.getElem_cons_succ, List.setIfInBounds_toArray, List.set_cons_zero, List.set_cons_succ]
  refine wpAnyH_ready (rs := [20]) (by kernel_rfl) (by simp) ?_
  refine AllReadyH.cons rfl (fun K hK => ?_) AllReadyH.nil
  go_simp
  go_at_call 14
  refine (C2.out _ (A1.out.later bu5)).mono ?_
  rintro e u6 ⟨rfl, h1⟩
  have bu6 := Below.go bu5 h1
  clear h1
  refine hK.out _ _ bu6 (fun _ => ?_)
  clear hK K
  try simp only [Act.put, List.getElem_toArray, List.getElem_cons_zero, List.getElem_cons_succ, List.setIfInBounds_toArray, List.set_cons_zero, List.set_cons_succ]
  refine wpAnyH_take (i := 21) (v := .bool true) rfl (by kernel_rfl) (by kernel_rfl) (by kernel_rfl) (fun _ _ _ h => h) (Or.inl ⟨by rfl, fun w' hS => ?_⟩) (by assumption) ?_
  · go_simp
  try simp only [Act.put, List.getElem_toArray, List.getElem_cons_zero, List.getElem_cons_succ, List.setIfInBounds_toArray, List.set_cons_zero, List.set_cons_succ]
  refine wpAnyH_take (i := 22) (v := ?_) rfl (by kernel_rfl) (by kernel_rfl) (by kernel_rfl) (fun _ _ _ h => h) (Or.inl ⟨by rfl, ?_⟩) (by assumption) ?_
  rotate_left
  · intro w' hS; go_simp; try (with_reducible rfl)
  try simp only [Act.put, List.getElem_toArray, List.getElem_cons_zero, List.getElem_cons_succ, List.setIfInBounds_toArray, List.set_cons_zero, List.set_cons_succ]
  refine wpAnyH_take (i := 23) (v := ?_) rfl (by kernel_rfl) (by kernel_rfl) (by kernel_rfl) (fun _ _ _ h => h) (Or.inl ⟨by rfl, ?_⟩) (by assumption) ?_
  rotate_left
  · intro w' hS; go_simp; try (with_reducible rfl)
  try simp only [Act.put, List.getElem_toArray, List.getElem_cons_zero, List.getElem_cons_succ, List.setIfInBounds_toArray, List.set_cons_zero, List.set_cons_succ]
  refine wpAnyH_ready (rs := [24]) (by kernel_rfl) (by simp) ?_
  refine AllReadyH.cons rfl (fun K hK => ?_) AllReadyH.nil
  go_simp
  go_at_call 15
  refine (works15_any _ (G1.out.later bu6)).mono ?_
  rintro e u7 ⟨rfl, h1⟩
  have bu7 := Below.go bu6 h1
  clear h1
  refine hK.out _ _ bu7 (fun _ => ?_)
  clear hK K
  try simp only [Act.put, List.getElem_toArray, List.getElem_cons_zero, List.getElem_cons_succ, List.setIfInBounds_toArray, List.set_cons_zero, List.set_cons_succ]
  refine wpAnyH_take (i := 25) (v := ?_) rfl (by kernel_rfl) (by kernel_rfl) (by kernel_rfl) (fun _ _ _ h => h) (Or.inl ⟨by rfl, ?_⟩) (by assumption) ?_
  rotate_left
  · intro w' hS; go_simp; try (with_reducible rfl)
  try simp only [Act.put, List.getElem_toArray, List.getElem_cons_zero, List.getElem_cons_succ, List.setIfInBounds_toArray, List.set_cons_zero, List.set_cons_succ]
  refine wpAnyH_take (i := 26) (v := ?_) rfl (by kernel_rfl) (by kernel_rfl) (by kernel_rfl) (fun _ _ _ h => h) (Or.inl ⟨by rfl, ?_⟩) (by assumption) ?_
  rotate_left
  · intro w' hS; go_simp; try (with_reducible rfl)
  try simp only [Act.put, List.getElem_toArray, List.getElem_cons_zero, List.getElem_cons_succ, List.setIfInBounds_toArray, List.set_cons_zero, List.set_cons_succ]
  refine wpAnyH_done (by kernel_rfl) ?_ _
  go_wp2_with (fail)
  go_ret
  exact ⟨rfl, Below.go HB.out bu7⟩
set_option maxHeartbeats 16000000 in
theorem Encodes_law (A : Ast) (w : World) (hA : AstAt A w) (hg : Has 0 0 CapL w) : Calls Tryd.prog 4 #[(.agg #[.int .i64 A.k, .slice A.M.qv A.M.nv A.M.cv, .slice A.M.qu A.M.nu A.M.cu, .slice A.M.qt A.M.nt A.M.ct, .int .i64 A.X.S, .slice A.X.q A.X.n A.X.c, .int .i64 (A.g 0), .int .i64 (A.g 1), .int .i64 (A.g 2), .int .i64 (A.g 3), .int .i64 (A.g 4), .int .i64 (A.l 0), .int .i64 (A.l 1), .int .i64 (A.l 2), .int .i64 (A.l 3), .int .i64 (A.l 4), .int .i64 (A.l 5), .int .i64 (A.l 6), .int .i64 (A.l 7), .int .i64 (A.l 8), .int .i64 (A.l 9), .int .i64 (A.l 10), .int .i64 (A.l 11), .int .i64 (A.l 12)])] w fun e w' => e = .returned (.bool true) ∧ Below w.heap.size w w' := by
  have AA := Lib.hid hA; have GG := Lib.hid hg
  clear hA hg
  have C1 := Lib.hid (fun w (h : AstAt A w) hg => AEncode_any (fewA A) (fewA_few A) w (fewA_at h) hg)
  have C2 := Lib.hid (fun w (h : AstAt A w) => AREncode_any (fewA A) (fewA_few A) w (fewA_at h))
  generalize encL (chkA (fewA A)) (lenA (fewA A)) = len at *
  generalize encA (fewA A) = F at *
  generalize chkA (fewA A) = z at *
  go_enter Tryd.func4, Tryd.ntmps4
  go_upto_region 1 with fail
  obtain ⟨W0, hW⟩ : ∃ W0, W0 = (w.alloc (.cells #[.int .i64 A.k, .slice A.M.qv A.M.nv A.M.cv, .slice A.M.qu A.M.nu A.M.cu, .slice A.M.qt A.M.nt A.M.ct, .int .i64 A.X.S, .slice A.X.q A.X.n A.X.c, .int .i64 (A.g 0), .int .i64 (A.g 1), .int .i64 (A.g 2), .int .i64 (A.g 3), .int .i64 (A.g 4), .int .i64 (A.l 0), .int .i64 (A.l 1), .int .i64 (A.l 2), .int .i64 (A.l 3), .int .i64 (A.l 4), .int .i64 (A.l 5), .int .i64 (A.l 6), .int .i64 (A.l 7), .int .i64 (A.l 8), .int .i64 (A.l 9), .int .i64 (A.l 10), .int .i64 (A.l 11), .int .i64 (A.l 12)] 37)) := ⟨_, rfl⟩
  have hB0 : Below w.heap.size w W0 := hW ▸ (Below.al (Below.refl _ _))
  have HP : Hid (Own w.heap.size ([.int .i64 A.k, .slice A.M.qv A.M.nv A.M.cv, .slice A.M.qu A.M.nu A.M.cu, .slice A.M.qt A.M.nt A.M.ct, .int .i64 A.X.S, .slice A.X.q A.X.n A.X.c, .int .i64 (A.g 0), .int .i64 (A.g 1), .int .i64 (A.g 2), .int .i64 (A.g 3), .int .i64 (A.g 4), .int .i64 (A.l 0), .int .i64 (A.l 1), .int .i64 (A.l 2), .int .i64 (A.l 3), .int .i64 (A.l 4), .int .i64 (A.l 5), .int .i64 (A.l 6), .int .i64 (A.l 7), .int .i64 (A.l 8), .int .i64 (A.l 9), .int .i64 (A.l 10), .int .i64 (A.l 11), .int .i64 (A.l 12)]) W0) := Lib.hid (hW ▸ (show Own w.heap.size ([.int .i64 A.k, .slice A.M.qv A.M.nv A.M.cv, .slice A.M.qu A.M.nu A.M.cu, .slice A.M.qt A.M.nt A.M.ct, .int .i64 A.X.S, .slice A.X.q A.X.n A.X.c, .int .i64 (A.g 0), .int .i64 (A.g 1), .int .i64 (A.g 2), .int .i64 (A.g 3), .int .i64 (A.g 4), .int .i64 (A.l 0), .int .i64 (A.l 1), .int .i64 (A.l 2), .int .i64 (A.l 3), .int .i64 (A.l 4), .int .i64 (A.l 5), .int .i64 (A.l 6), .int .i64 (A.l 7), .int .i64 (A.l 8), .int .i64 (A.l 9), .int .i64 (A.l 10), .int .i64 (A.l 11), .int .i64 (A.l 12)]) (w.alloc (.cells #[.int .i64 A.k, .slice A.M.qv A.M.nv A.M.cv, .slice A.M.qu A.M.nu A.M.cu, .slice A.M.qt A.M.nt A.M.ct, .int .i64 A.X.S, .slice A.X.q A.X.n A.X.c, .int .i64 (A.g 0), .int .i64 (A.g 1), .int .i64 (A.g 2), .int .i64 (A.g 3), .int .i64 (A.g 4), .int .i64 (A.l 0), .int .i64 (A.l 1), .int .i64 (A.l 2), .int .i64 (A.l 3), .int .i64 (A.l 4), .int .i64 (A.l 5), .int .i64 (A.l 6), .int .i64 (A.l 7), .int .i64 (A.l 8), .int .i64 (A.l 9), .int .i64 (A.l 10), .int .i64 (A.l 11), .int .i64 (A.l 12)] 37)) from Own.newAt (by simp)))
  rw [← hW]
  clear hW
  obtain ⟨P, eP⟩ : ∃ X, X = w.heap.size := ⟨_, rfl⟩
  rw [← eP] at HP ⊢
  have Pw : w.heap.size ≤ P := by omega
  clear eP
  have FW := Lib.hid (lfew_any A)
  go_upto_region 2 with (first | (refine wpList_load_mid rfl 37 _ rfl P 0 rfl ([.int .i64 A.k, .slice A.M.qv A.M.nv A.M.cv, .slice A.M.qu A.M.nu A.M.cu, .slice A.M.qt A.M.nt A.M.ct, .int .i64 A.X.S, .slice A.X.q A.X.n A.X.c, .int .i64 (A.g 0), .int .i64 (A.g 1), .int .i64 (A.g 2), .int .i64 (A.g 3), .int .i64 (A.g 4), .int .i64 (A.l 0), .int .i64 (A.l 1), .int .i64 (A.l 2), .int .i64 (A.l 3), .int .i64 (A.l 4), .int .i64 (A.l 5), .int .i64 (A.l 6), .int .i64 (A.l 7), .int .i64 (A.l 8), .int .i64 (A.l 9), .int .i64 (A.l 10), .int .i64 (A.l 11), .int .i64 (A.l 12)]) _ HP.out.cell Tryd.underlying37 rfl (by kernel_rfl) ?_) | (go_at_call 8; refine (FW.out _ (AA.out.later hB0)).mono ?_; rintro e w1 ⟨rfl, hb⟩; have HP1 := Lib.hid (HP.out.later hb); have hB1 := Below.go hB0 hb; clear hb hB0 HP FW) | (refine wpList_store_mid rfl 37 _ _ rfl P 0 ([.int .i64 (fewA A).k, .slice (fewA A).M.qv (fewA A).M.nv (fewA A).M.cv, .slice (fewA A).M.qu (fewA A).M.nu (fewA A).M.cu, .slice (fewA A).M.qt (fewA A).M.nt (fewA A).M.ct, .int .i64 (fewA A).X.S, .slice (fewA A).X.q (fewA A).X.n (fewA A).X.c, .int .i64 ((fewA A).g 0), .int .i64 ((fewA A).g 1), .int .i64 ((fewA A).g 2), .int .i64 ((fewA A).g 3), .int .i64 ((fewA A).g 4), .int .i64 ((fewA A).l 0), .int .i64 ((fewA A).l 1), .int .i64 ((fewA A).l 2), .int .i64 ((fewA A).l 3), .int .i64 ((fewA A).l 4), .int .i64 ((fewA A).l 5), .int .i64 ((fewA A).l 6), .int .i64 ((fewA A).l 7), .int .i64 ((fewA A).l 8), .int .i64 ((fewA A).l 9), .int .i64 ((fewA A).l 10), .int .i64 ((fewA A).l 11), .int .i64 ((fewA A).l 12)]).toArray rfl rfl HP1.out.free (by kernel_rfl) (by simp [Value.oneCell']) ?_; change wpList _ _ _ _ _ (w1.setCells P 0 ([.int .i64 (fewA A).k, .slice (fewA A).M.qv (fewA A).M.nv (fewA A).M.cv, .slice (fewA A).M.qu (fewA A).M.nu (fewA A).M.cu, .slice (fewA A).M.qt (fewA A).M.nt (fewA A).M.ct, .int .i64 (fewA A).X.S, .slice (fewA A).X.q (fewA A).X.n (fewA A).X.c, .int .i64 ((fewA A).g 0), .int .i64 ((fewA A).g 1), .int .i64 ((fewA A).g 2), .int .i64 ((fewA A).g 3), .int .i64 ((fewA A).g 4), .int .i64 ((fewA A).l 0), .int .i64 ((fewA A).l 1), .int .i64 ((fewA A).l 2), .int .i64 ((fewA A).l 3), .int .i64 ((fewA A).l 4), .int .i64 ((fewA A).l 5), .int .i64 ((fewA A).l 6), .int .i64 ((fewA A).l 7), .int .i64 ((fewA A).l 8), .int .i64 ((fewA A).l 9), .int .i64 ((fewA A).l 10), .int .i64 ((fewA A).l 11), .int .i64 ((fewA A).l 12)])); have HPn : Hid (Own P ([.int .i64 (fewA A).k, .slice (fewA A).M.qv (fewA A).M.nv (fewA A).M.cv, .slice (fewA A).M.qu (fewA A).M.nu (fewA A).M.cu, .slice (fewA A).M.qt (fewA A).M.nt (fewA A).M.ct, .int .i64 (fewA A).X.S, .slice (fewA A).X.q (fewA A).X.n (fewA A).X.c, .int .i64 ((fewA A).g 0), .int .i64 ((fewA A).g 1), .int .i64 ((fewA A).g 2), .int .i64 ((fewA A).g 3), .int .i64 ((fewA A).g 4), .int .i64 ((fewA A).l 0), .int .i64 ((fewA A).l 1), .int .i64 ((fewA A).l 2), .int .i64 ((fewA A).l 3), .int .i64 ((fewA A).l 4), .int .i64 ((fewA A).l 5), .int .i64 ((fewA A).l 6), .int .i64 ((fewA A).l 7), .int .i64 ((fewA A).l 8), .int .i64 ((fewA A).l 9), .int .i64 ((fewA A).l 10), .int .i64 ((fewA A).l 11), .int .i64 ((fewA A).l 12)]) (w1.setCells P 0 ([.int .i64 (fewA A).k, .slice (fewA A).M.qv (fewA A).M.nv (fewA A).M.cv, .slice (fewA A).M.qu (fewA A).M.nu (fewA A).M.cu, .slice (fewA A).M.qt (fewA A).M.nt (fewA A).M.ct, .int .i64 (fewA A).X.S, .slice (fewA A).X.q (fewA A).X.n (fewA A).X.c, .int .i64 ((fewA A).g 0), .int .i64 ((fewA A).g 1), .int .i64 ((fewA A).g 2), .int .i64 ((fewA A).g 3), .int .i64 ((fewA A).g 4), .int .i64 ((fewA A).l 0), .int .i64 ((fewA A).l 1), .int .i64 ((fewA A).l 2), .int .i64 ((fewA A).l 3), .int .i64 ((fewA A).l 4), .int .i64 ((fewA A).l 5), .int .i64 ((fewA A).l 6), .int .i64 ((fewA A).l 7), .int .i64 ((fewA A).l 8), .int .i64 ((fewA A).l 9), .int .i64 ((fewA A).l 10), .int .i64 ((fewA A).l 11), .int .i64 ((fewA A).l 12)]))) := Lib.hid (Own.store HP1.out rfl); have hB2 : Below w.heap.size w (w1.setCells P 0 ([.int .i64 (fewA A).k, .slice (fewA A).M.qv (fewA A).M.nv (fewA A).M.cv, .slice (fewA A).M.qu (fewA A).M.nu (fewA A).M.cu, .slice (fewA A).M.qt (fewA A).M.nt (fewA A).M.ct, .int .i64 (fewA A).X.S, .slice (fewA A).X.q (fewA A).X.n (fewA A).X.c, .int .i64 ((fewA A).g 0), .int .i64 ((fewA A).g 1), .int .i64 ((fewA A).g 2), .int .i64 ((fewA A).g 3), .int .i64 ((fewA A).g 4), .int .i64 ((fewA A).l 0), .int .i64 ((fewA A).l 1), .int .i64 ((fewA A).l 2), .int .i64 ((fewA A).l 3), .int .i64 ((fewA A).l 4), .int .i64 ((fewA A).l 5), .int .i64 ((fewA A).l 6), .int .i64 ((fewA A).l 7), .int .i64 ((fewA A).l 8), .int .i64 ((fewA A).l 9), .int .i64 ((fewA A).l 10), .int .i64 ((fewA A).l 11), .int .i64 ((fewA A).l 12)])) := Below.setCells hB1 Pw _ _; clear HP1 hB1; generalize w1.setCells P 0 ([.int .i64 (fewA A).k, .slice (fewA A).M.qv (fewA A).M.nv (fewA A).M.cv, .slice (fewA A).M.qu (fewA A).M.nu (fewA A).M.cu, .slice (fewA A).M.qt (fewA A).M.nt (fewA A).M.ct, .int .i64 (fewA A).X.S, .slice (fewA A).X.q (fewA A).X.n (fewA A).X.c, .int .i64 ((fewA A).g 0), .int .i64 ((fewA A).g 1), .int .i64 ((fewA A).g 2), .int .i64 ((fewA A).g 3), .int .i64 ((fewA A).g 4), .int .i64 ((fewA A).l 0), .int .i64 ((fewA A).l 1), .int .i64 ((fewA A).l 2), .int .i64 ((fewA A).l 3), .int .i64 ((fewA A).l 4), .int .i64 ((fewA A).l 5), .int .i64 ((fewA A).l 6), .int .i64 ((fewA A).l 7), .int .i64 ((fewA A).l 8), .int .i64 ((fewA A).l 9), .int .i64 ((fewA A).l 10), .int .i64 ((fewA A).l 11), .int .i64 ((fewA A).l 12)]) = w2 at *))
  have HB := Lib.hid hB2
  have HP := HPn
  have A1 := Lib.hid (AA.out.later hB2); have G1 := Lib.hid (GG.out.later hB2)
  clear hB2 HPn AA GG
  go_wp2_with (refine wpList_load_mid rfl 37 _ rfl P 0 rfl ([.int .i64 (fewA A).k, .slice (fewA A).M.qv (fewA A).M.nv (fewA A).M.cv, .slice (fewA A).M.qu (fewA A).M.nu (fewA A).M.cu, .slice (fewA A).M.qt (fewA A).M.nt (fewA A).M.ct, .int .i64 (fewA A).X.S, .slice (fewA A).X.q (fewA A).X.n (fewA A).X.c, .int .i64 ((fewA A).g 0), .int .i64 ((fewA A).g 1), .int .i64 ((fewA A).g 2), .int .i64 ((fewA A).g 3), .int .i64 ((fewA A).g 4), .int .i64 ((fewA A).l 0), .int .i64 ((fewA A).l 1), .int .i64 ((fewA A).l 2), .int .i64 ((fewA A).l 3), .int .i64 ((fewA A).l 4), .int .i64 ((fewA A).l 5), .int .i64 ((fewA A).l 6), .int .i64 ((fewA A).l 7), .int .i64 ((fewA A).l 8), .int .i64 ((fewA A).l 9), .int .i64 ((fewA A).l 10), .int .i64 ((fewA A).l 11), .int .i64 ((fewA A).l 12)]) _ HP.out.cell Tryd.underlying37 rfl (by kernel_rfl) ?_)
  go_at_call 16
  refine (C1.out _ A1.out G1.out).mono ?_
  rintro e w3 ⟨⟨v, rfl, hr⟩, hb⟩
  have HP3 := Lib.hid (HP.out.later hb); have A3 := Lib.hid (A1.out.later hb); have G3 := Lib.hid (G1.out.later hb); have HB3 := Lib.hid (Below.go HB.out hb); have R3 := Lib.hid hr
  clear hb hr HP A1 G1 HB C1
  go_wp2_with (refine wpList_load_mid rfl 37 _ rfl P 0 rfl ([.int .i64 (fewA A).k, .slice (fewA A).M.qv (fewA A).M.nv (fewA A).M.cv, .slice (fewA A).M.qu (fewA A).M.nu (fewA A).M.cu, .slice (fewA A).M.qt (fewA A).M.nt (fewA A).M.ct, .int .i64 (fewA A).X.S, .slice (fewA A).X.q (fewA A).X.n (fewA A).X.c, .int .i64 ((fewA A).g 0), .int .i64 ((fewA A).g 1), .int .i64 ((fewA A).g 2), .int .i64 ((fewA A).g 3), .int .i64 ((fewA A).g 4), .int .i64 ((fewA A).l 0), .int .i64 ((fewA A).l 1), .int .i64 ((fewA A).l 2), .int .i64 ((fewA A).l 3), .int .i64 ((fewA A).l 4), .int .i64 ((fewA A).l 5), .int .i64 ((fewA A).l 6), .int .i64 ((fewA A).l 7), .int .i64 ((fewA A).l 8), .int .i64 ((fewA A).l 9), .int .i64 ((fewA A).l 10), .int .i64 ((fewA A).l 11), .int .i64 ((fewA A).l 12)]) _ HP3.out.cell Tryd.underlying37 rfl (by kernel_rfl) ?_)
  go_at_call 17
  refine (C2.out _ A3.out).mono ?_
  rintro e w4 ⟨⟨v2, rfl, hr⟩, hb⟩
  have G4 := Lib.hid (G3.out.later hb); have HB4 := Lib.hid (Below.go HB3.out hb); have R4 := Lib.hid (R3.out.later hb (Nat.le_refl _)); have R4b := Lib.hid hr
  clear hb hr HP3 A3 G3 HB3 C2 R3
  go_wp2_with (fail)
  go_at_call 18
  refine (Equal_R _ _ len F _ R4.out R4b.out).mono ?_
  rintro e w5 ⟨rfl, hb⟩
  have G5 := Lib.hid (G4.out.later hb); have HB5 := Lib.hid (Below.go HB4.out hb)
  clear hb G4 HB4 R4 R4b
  go_wp2_with (fail)
  go_at_call 15
  refine (works15_any _ G5.out).mono ?_
  rintro e w6 ⟨rfl, hb⟩
  have HB6 := Lib.hid (Below.go HB5.out hb)
  clear hb G5 HB5
  go_wp2_with (fail)
  go_ret
  exact ⟨rfl, HB6.out⟩
end Go.Proofs.YtokfhhngnpbdkaaDoor
